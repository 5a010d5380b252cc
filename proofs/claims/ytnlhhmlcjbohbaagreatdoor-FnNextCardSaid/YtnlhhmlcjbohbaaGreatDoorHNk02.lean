import Derived.WalkSpells
import Derived.Deep.RegionHeld3
import Derived.Deep.AppendLies
import Derived.OneCell
import Derived.Test.YtnlhhmlcjbohbaaGreatDoorHNk01
import Derived.Shelf.Small.Strs
import Derived.Shelf.Small.Wraps
import Derived.Shelf.Strings.BuilderF
import Derived.Shelf.Strconv.Itoa3
import Derived.Shelf.Strconv.ErrVarParseInt
import Derived.Shelf.Pu.ErrVarParseUint
import Derived.Shelf.Strings.Fields
import Derived.Shelf.Bits.Mul64
import Derived.Shelf.Unicode.IsSpaceAny
import Derived.Shelf.Unicode.ExclAny
import Derived.ProofKit
import Derived.RangeFuncBox
set_option linter.all false
set_option maxRecDepth 100000
set_option maxHeartbeats 6400000
open Option renaming some->M,none->S
open Go.Proofs.Tryz renaming prog->O,sizeOf3->B0,isAgg3->Ck
open Go.Value renaming string->T,int->U,slice->A0,pointer->B3,bool->B7,tuple->Ce,nilIface->C7,string->C8,iface->E1,int->Fs
open Go renaming World->V,Value->Ax,Calls->A2,TypeId->C5,maxLen->C6
open Go.IntKind renaming i64->X,u8->Cr,u64->E2
open Go.Ending renaming returned->Y
open Bool renaming false->Z,true->B4
open Go.RowKit renaming Below->A5,intOf->Ft
open ByteArray renaming empty->A9
open Go.Shelf renaming Ren->Br
open Go.Obj renaming cells->B1
open Go.World renaming setCell->B6,news_of_block->C2
open Go.Instr renaming index->C4
namespace Go.Proofs.YtnlhhmlcjbohbaaGreatDoor
open Go.RowKit
variable{B b base c cap e g i n t:Nat}{Q:Exit->Act->World->Prop}{R:Bool×Nat×List Int}{W W' w w' y z:World}{a:Addr}{f fr l p r:Int}{k:Bool}{m v vk vn:Value}{o:Oper}{ops:Array Oper}{s:ByteArray}{xs:List Value}
theorem Tryz.info5:(Tryz.prog.info? 5).map (fun i=>(i.zero,i.size,i.bytes))=M (M (U Cr 0),1,1):=by kernel_rfl
def B8(l:List Int):List Ax:=l.map (Fs Cr)
theorem afd(a b:List Int):B8 (a++b)=B8 a++B8 b:=by simp[B8]
theorem afe(a:List Int):(B8 a).length=a.length:=by simp[B8]
theorem yw{l:List Int}(h:w.ownsRow base 5 1 v n (B8 l)):l.length=n:=by
 have:=h.1;simpa [B8] using this
theorem mz{e:List Oper}{a:Act}(j:o.guard=S)(s x:Operand)
  (u:o.op= .call {callee:= .builtin .append,args:=#[s,x],argTypes:=#[22,22]}) (base:Nat) (v:Ax) (n:Nat) (l:List Int) (z:a.eval s=v)
  (c:w.ownsRow base 5 1 v n (B8 l)) (f:base<=w.heap.size) (I:n<=100000) (b:List Int) (m:Nat) (r:b.length=m) (t:0<m) (H:m<=100) (cs:Array Ax) (i:cs.toList=B8 b)
  (A:a.eval x= .slice (M ⟨w.heap.size,0,S⟩) m m)
  (h:∀g cap w1,w1.ownsRow base 5 1 (.slice (M ⟨g,0,S⟩) (n+m) cap) (n+m) (B8 (l++b))->A5 base w w1->wpList O ops Q e (a.put o.dst (.slice (M ⟨g,0,S⟩) (n+m) cap)) w1):
  wpList O ops Q (o::e) a (w.alloc (.cells cs 5)):=by
 obtain⟨F,p,B,C,E⟩:=dD Tryz.info5;refine wpList_append_lies _ j s x 22 u base 5 F (.int .u8 0) 1 1 Tryz.underlying22 p B C E rfl (by decide) v n (B8 l) z (c.alloc _) ⟨w.heap.size,0,S⟩ m m (B8 b) A (by simp[B8,r])
  (by rw[<-i];exact C2 (fr:=(0,0)) (ay w _)) (by intro K d;simp[B8]at d;obtain⟨J,_,rfl⟩:=d;rfl) t (by unfold C6;omega) (by omega) (by simp;omega) (w.heap.size+1) (by simp) ?_
 intro g cap w1 y k _ _;refine h g cap w1 (by rw[afd];exact y) (((ah base w).alloc f _).grown k (by simp;omega) (fun G q=>(c.lt G q).1))
def qA(d:Int):Int:=if d<10 then 48+d else 87+d
def esc(c:Int):List Int:=if c=10 then [92,110] else if c=9 then [92,116] else if c=34\/c=92 then [92,c] else if c<32\/126<c then [92,120,qA (c / 16),qA (c%16)] else [c]
def DG:ByteArray:=⟨#[48,49,50,51,52,53,54,55,56,57,97,98,99,100,101,102]⟩
theorem amF:∀i:Fin 16,((DG[i.val]'(by have:=i.isLt;exact this)).toNat:Int)=qA (i.val:Int):=by decide
theorem al7(d:Int)(b:0<=d)(c:d<16)(h:d.toNat<DG.size):((DG[d.toNat]'h).toNat:Int)=qA d:=by
 have:=amF ⟨d.toNat,by omega⟩;have a:((d.toNat:Nat):Int)=d:=by omega
 simp only[a]at this;exact this
theorem aff(d:Int)(b:0<=d)(c:d<16)(w:V):(C4 9 (T ⟨#[48,49,50,51,52,53,54,55,56,57,97,98,99,100,101,102]⟩) (U Cr d)).run O w= .ok (U Cr (qA d)) w:=by
 have a:d.toNat<DG.size:=by simp only[DG];show d.toNat<16;omega
 have e:=al7 d b c a;go_simp;exact e
theorem arj(c:Int)(a:0<=c)(b:c<256):bits .and Cr c 15=c%16:=by
 have:=bits_mask Cr 8 (by decide) wraps_u8 4 (by decide) c a b;simpa using this
theorem ab4{a:Act}{K:Act->V->Prop}{e:Prop}(j:o.guard=S)(s x:Operand)
  (u:o.op= .call {callee:= .builtin .append,args:=#[s,x],argTypes:=#[22,22]}) (base:Nat) (v:Ax) (n:Nat) (l:List Int) (z:a.eval s=v)
  (c:w.ownsRow base 5 1 v n (B8 l)) (f:base<=w.heap.size) (I:n<=100000) (b:List Int) (m:Nat) (r:b.length=m) (t:0<m) (H:m<=100) (cs:Array Ax) (i:cs.toList=B8 b)
  (A:a.eval x= .slice (M ⟨w.heap.size,0,S⟩) m m)
  (h:∀g cap w1,w1.ownsRow base 5 1 (.slice (M ⟨g,0,S⟩) (n+m) cap) (n+m) (B8 (l++b))->A5 base w w1->K (a.put o.dst (.slice (M ⟨g,0,S⟩) (n+m) cap)) w1):
  if Region.wanted o (yielded ops a.tmps)=B4 then Oper.wp O o a (w.alloc (.cells cs 5)).drew K Q else e:=by
 obtain⟨F,p,B,C,E⟩:=dD Tryz.info5;refine step_append_lies _ j s x 22 u base 5 F (.int .u8 0) 1 1 Tryz.underlying22 p B C E rfl (by decide) v n (B8 l) z ((c.alloc _).drew) ⟨w.heap.size,0,S⟩ m m (B8 b) A (by simp[B8,r])
  (by rw[<-i];exact C2 (fr:=(0,0)) (ay w _)) (by intro L d;simp[B8]at d;obtain⟨J,_,rfl⟩:=d;rfl) t (by unfold C6;omega) (by omega) (by simp;omega) (w.heap.size+1) (by simp) ?_
 intro g cap w1 y k _ _;refine h g cap w1 (by rw[afd];exact y) ((((ah base w).alloc f _).drew).grown k (by simp;omega) (fun G q=>(c.lt G q).1))
def ey(l:List Int):ByteArray:=l.foldl (fun r n=>r.push (UInt8.ofNat n.toNat)) A9
theorem oA{l:List Int}(b:w.ownsRow base 5 1 (.slice (M ⟨g,0,S⟩) n cap) n (B8 l)):
  (convert 22 9 (.slice (M ⟨g,0,S⟩) n cap)).run O w= .ok (.string (ey l)) w:=by
 rw[GE w 22 9 5 _ _ _ Tryz.underlying22 Tryz.underlying5 Tryz.underlying9];have e:=yw b;refine run_bytesToString w _ n cap l ?_;rcases b.2 with⟨c,_⟩|⟨o,k,m,h,_,d,_,_,p,f⟩
 ·cases c
 ·cases h;have:=run_loadCells_list (P:=O) w ⟨g,0,S⟩ (B8 l) (fun i j a=>by
   refine C2 d i j ?_;rw[<-f]at a;rw[mu]at a;split at a
   ·exact a
   ·cases a)
  rw[afe,e]at this;exact this
theorem zK(w:V)(c:Int):(w.alloc (B1 #[U Cr c] 5)).ownsRow w.heap.size 5 1 (A0 (M ⟨w.heap.size,0,S⟩) 1 1) 1 (B8 [c]):=
 ⟨rfl,.inr ⟨w.heap.size,1,#[U Cr c],rfl,ae _,ay w _,ae _,by unfold C6;omega,rfl,rfl⟩⟩
theorem ajl(c:Int):(esc c).length<=4:=by
 unfold esc;split
 ·decide
 split
 ·decide
 split
 ·simp
 split<;>simp
def qt(s:ByteArray)(k:Nat):List Int:=34::(s.data.toList.take k).flatMap fun b=>esc (b.toNat:Int)
theorem ab5(s:ByteArray):qt s 0=[34]:=rfl
theorem vL(s:ByteArray)(k:Nat)(h:k<s.size):qt s (k+1)=qt s k++esc (s[k].toNat:Int):=by
 unfold qt;rw[List.take_succ_eq_append_getElem (by simpa using h)];simp only[vF,qH,List.flatMap_nil,eo,eC];rfl
theorem aah(s:ByteArray):∀k,k<=s.size->(qt s k).length<=1+4*k
 |0,_=>by simp[qt]
 |k+1,h=>by
  have:=aah s k (by omega);have a:=ajl (s[k].toNat:Int);rw[vL s k (by omega),aB];omega
def cD(s:ByteArray):List Int:=qt s s.size++[34]
def Code(base:Nat)(w:V)(d:Option Addr)(b:Nat):Prop:=
 b=0\/∃a c,d=M ⟨a,c,S⟩/\a<base/\∀i,i<b->∃z:Int,0<=z/\z<256/\w.cell? ⟨a,c+i,S⟩=M (U Cr z)
theorem Code.below{a:Option Addr}{e:Nat}(h:Code base w a e)(i:A5 base w w'):Code base w' a e:=by
 rcases h with h|⟨b,f,g,c,j⟩
 ·exact .inl h
 ·exact .inr ⟨b,f,g,c,fun d k=>by obtain⟨m,z0,n,l⟩:=j d k;exact⟨m,z0,n,(i.cell (p:=⟨b,f+d,S⟩) c).trans l⟩⟩
def fj(b:Nat)(w:V)(a:Option Addr)(d c:Nat)(p q r:Int):Prop:=
 w.heap[b]?=M (B1 #[A0 a d c,U X p,U E2 q,U X r] 43 (0,0))
theorem wd{a:Option Addr}{c:Nat}{q:Int}(h:fj b w a c cap p q r):
  w.cell? ⟨b,0,S⟩=M (A0 a c cap)/\w.cell? ⟨b,1,S⟩=M (U X p)/\w.cell? ⟨b,2,S⟩=M (U E2 q)/\w.cell? ⟨b,3,S⟩=M (U X r)/\
  w.frozen? ⟨b,1,S⟩=Z/\w.frozen? ⟨b,2,S⟩=Z/\w.frozen? ⟨b,3,S⟩=Z:=by
 unfold fj at h;refine⟨by rw[au _ _ _ _ _ _ h];rfl,by rw[au _ _ _ _ _ _ h];rfl,by rw[au _ _ _ _ _ _ h];rfl,by rw[au _ _ _ _ _ _ h];rfl,bI _ _ _ _ _ h,bI _ _ _ _ _ h,bI _ _ _ _ _ h⟩
theorem fj.set1{a:Option Addr}{c:Nat}{q:Int}(h:fj b w a c cap p q r)(x:Int):fj b (w.setCell ⟨b,1,S⟩ (U X x)) a c cap x q r:=aL w b 1 _ _ _ h
theorem fj.set2{a:Option Addr}{c:Nat}{q:Int}(h:fj b w a c cap p q r)(x:Int):fj b (w.setCell ⟨b,2,S⟩ (U E2 x)) a c cap p x r:=aL w b 2 _ _ _ h
theorem fj.set3{a:Option Addr}{c:Nat}{q:Int}(h:fj b w a c cap p q r)(x:Int):fj b (w.setCell ⟨b,3,S⟩ (U X x)) a c cap p q x:=aL w b 3 _ _ _ h
theorem fj.drewN{a:Option Addr}{c:Nat}{q:Int}(h:fj b w a c cap p q r)(n:Nat):fj b (w.drewN n) a c cap p q r:=h
theorem fj.lt{a:Option Addr}{c:Nat}{q:Int}(h:fj b w a c cap p q r):b<w.heap.size:=ai h
theorem pj(w:V)(b:Nat):w.grownBy w (M b):=⟨rfl,rfl,rfl,ae _,fun _ _ _=>rfl⟩
theorem uv{a:V}(h:a.grownBy w (M b))(n:Nat):a.grownBy (w.drewN n) (M b):=⟨h.os,h.tape,h.output,h.size,h.block⟩
theorem xl{c:V}(h:c.grownBy w (M b))(i:Nat)(v:Ax):c.grownBy (w.setCell ⟨b,i,S⟩ v) (M b):=
 ⟨h.os,h.tape,h.output,by simpa [B6] using h.size,fun f e a=>by rw[aC _ _ _ _ (fun d=>a (by rw[d]))];exact h.block f e a⟩
theorem Je{x:V}(h:x.grownBy y (M b))(k:y.grownBy z (M b)):x.grownBy z (M b):=
 ⟨k.os.trans h.os,k.tape.trans h.tape,k.output.trans h.output,bg h.size k.size,fun d a c=>(k.block d (gh a h.size) c).trans (h.block d a c)⟩
theorem oB{x:V}(h:x.grownBy y (M b))(c:base<=b)(d:base<=x.heap.size):A5 base x y:=
 (ah base x).grown h d (fun e a=>by cases a;exact c)
theorem adC(base:Nat)(w:V)(n:Nat):A5 base w (w.drewN n):=⟨rfl,rfl,rfl,ae _,fun _ _=>rfl⟩
theorem ark(x:Int):0<=wrap64 (bits .and E2 (IntKind.u64.wrap x / 1099511627776) 255)/\wrap64 (bits .and E2 (IntKind.u64.wrap x / 1099511627776) 255)<256:=by
 have b:IntKind.u64.wrap x=x%18446744073709551616:=by simp[IntKind.wrap,IntKind.bits,IntKind.signed]
 have f:0<=IntKind.u64.wrap x / 1099511627776:=by rw[b];omega
 have g:IntKind.u64.wrap x / 1099511627776<2 ^ 24:=by rw[b];omega
 have h:∀a:Int,0<=a->a<2 ^ 24->IntKind.u64.wrap a=a:=fun a i j=>by
  have c:IntKind.u64.wrap a=a%18446744073709551616:=by simp[IntKind.wrap,IntKind.bits,IntKind.signed]
  rw[c];omega
 have:=bits_mask E2 24 (by decide) h 8 (by decide) _ f g;have d:((2:Int) ^ 8-1)=255:=by decide
 rw[d]at this;have e:((2:Int) ^ 8)=256:=by decide
 rw[this,e];unfold wrap64;omega
theorem ajm(b base:Nat)(w:V)(c d a f:Nat)(p q r:Int)(g:fj b w (M ⟨c,d,S⟩) a f p q r)(u:0<=p)(s:p<a)(t:a<=1048576)
  (z:Int) (z0:0<=z) (x:z<256) (v:w.cell? ⟨c,d+p.toNat,S⟩=M (U Cr z)):
  A2 O 33 #[B3 (M ⟨b,0,S⟩)] w fun e w'=>e= Y (U X z)/\∃h,fj b w' (M ⟨c,d,S⟩) a f (p+1) h r/\w.grownBy w' (M b):=by
 obtain⟨i,j,k,l,m,n,o⟩:=wd g;go_in;go_wp2;go_quiet (fail)
 go_wp2;go_quiet (fail)
 go_wp2;go_ret;exact⟨rfl,_,((g.drewN _).set1 _).set2 _,xl (xl (uv (pj w b) _) _ _) _ _⟩
theorem afg(b base:Nat)(w:V)(c:Option Addr)(a d:Nat)(p q r:Int)(g:fj b w c a d p q r)(u:0<=p)(v:p<=1000000000)(s:¬p<a)(t:a<=1048576):
  A2 O 33 #[B3 (M ⟨b,0,S⟩)] w fun e w'=>∃z:Int,0<=z/\z<256/\e= Y (U X z)/\∃h,fj b w' c a d (p+1) h r/\w.grownBy w' (M b):=by
 obtain⟨i,j,k,l,m,n,o⟩:=wd g;go_in;go_wp2;go_quiet (fail)
 go_wp2;go_ret;have f:=ark (IntKind.u64.wrap (q*6364136223846793005)+1442695040888963407);exact⟨_,f.1,f.2,rfl,_,((g.drewN _).set2 _).set1 _,xl (xl (uv (pj w b) _) _ _) _ _⟩
theorem yx(b base:Nat)(w:V)(c:Option Addr)(a d:Nat)(p q r:Int)(f:fj b w c a d p q r)(l:Code base w c a)(i:0<=p)(o:p<=1000000000)(h:a<=1048576):
  A2 O 33 #[B3 (M ⟨b,0,S⟩)] w fun e w'=>∃z:Int,0<=z/\z<256/\e= Y (U X z)/\∃v,fj b w' c a d (p+1) v r/\w.grownBy w' (M b):=by
 by_cases g:p<a
 ·rcases l with x|⟨k,u,rfl,y,m⟩
  ·omega
  ·obtain⟨z,z0,j,t⟩:=m p.toNat (by omega);exact(ajm b base w k u a d p q r f i g h z z0 j t).mono fun e w' ⟨n,s⟩=>⟨z,z0,j,n,s⟩
 ·exact afg b base w c a d p q r f i o g h
theorem CC(k:Int)(o:2<=k)(s:k<=200)(b base:Nat)(w:V)(c:Option Addr)(a d:Nat)(p q r:Int)(h:fj b w c a d p q r)(j:Code base w c a)(m:0<=p)(n:p<=1000000000)(l:a<=1048576):
  A2 O 13 #[B3 (M ⟨b,0,S⟩),U X k] w fun e w'=>∃z:Int,0<=z/\z<k/\e= Y (U X z)/\∃f,fj b w' c a d (p+1) f r/\w.grownBy w' (M b):=by
 go_in;go_wp2_with (go_at_call 33;refine(yx b base w c a d p q r h j m n l).mono ?_;rintro e w' ⟨z,z0,t,rfl,f,i,g⟩);go_ret;exact⟨z%k,Int.emod_nonneg _ (by omega),Int.emod_lt_of_pos _ (by omega),rfl,f,i,g⟩
theorem fj.below{a:Option Addr}{c:Nat}{q:Int}(h:fj b w a c cap p q r)(d:A5 B w w')(e:b<B):fj b w' a c cap p q r:=
 (d.block b e).trans h
theorem yy(w:V):(convert 22 9 (.slice S 0 0)).run O w= .ok (.string A9) w:=by
 rw[GE w 22 9 5 _ _ _ Tryz.underlying22 Tryz.underlying5 Tryz.underlying9];simp[Conv.bytesToString,Sem.run_pure]
theorem adD(l:List Int):∀r:ByteArray,(l.foldl (fun r n=>r.push (UInt8.ofNat n.toNat)) r).size=r.size+l.length:=by
 induction l with
 |nil=>intro r;rfl
 |cons b l a=>intro r;simp only[tq,bi];rw[a,ByteArray.size_push];omega
theorem rL(l:List Int):(ey l).size=l.length:=by
 unfold ey;rw[adD];simp
theorem amG{size:Nat}(h:w.ownsRow base e size v n xs)(a:b<base):v.ownBlock=S\/v.ownBlock≠M b:=by
 right;intro e;have:=(h.lt b e).1;omega
theorem amH{x:V}(h:x.grownBy y (M b))(k:A5 x.heap.size y z):x.grownBy z (M b):=
 ⟨k.os.trans h.os,k.tape.trans h.tape,k.output.trans h.output,bg h.size k.size,fun c a d=>(k.block c a).trans (h.block c a d)⟩
theorem Ff(n:Nat)(av:n<=100)(b base:Nat)(w:V)(h:Option Addr)(g k:Nat)(p q r:Int)(G:base<=b)(H:base<=w.heap.size)(y:fj b w h g k p q r)(J:Code base w h g)(af:0<=p)(a1:p<=900000000)(K:g<=1048576):
  A2 O 42 #[B3 (M ⟨b,0,S⟩),U X n] w fun e w'=>∃s:ByteArray,s.size<=n/\e= Y (T s)/\∃a f,0<=a/\a<=p+n/\fj b w' h g k a f r/\w.grownBy w' (M b):=by
 have x:=y.lt;go_in;go_wp21
 go_loopw [1,5] (fun u al wr=>∃(d c:Nat) (t:List Int) (a f:Int),u= U X d/\d+c=n/\wr.ownsRow w.heap.size 5 1 al c (B8 t)/\fj b wr h g k a f r/\0<=a/\a<=p+c/\w.grownBy wr (M b)) (fun u _ _=>(Ft u).toNat)
 case atStart=>exact⟨n,0,[],p,q,rfl,rfl,cE _ _ _ _,y,af,by omega,pj w b⟩
 case round=>
  obtain⟨d,c,t,a,f,rfl,A,j,l,o,a2,i⟩:=hrel;have z:=yw j;have a3:=i.size;have C:=aw A;have ao:c<=n:=by omega
  have ar:d<=n:=by omega
  have B:=aw z;clear A z;by_cases ap:0<d
  ·go_wp2_with (first
    |(go_at_call 33;refine(yx b base wr h g k a f r l (J.below (oB i G H)) o (by omega) K).mono ?_;rintro e w1 ⟨a7,z0,a8,rfl,ak,I,m⟩;have L:=j.kept m (amG j x);have a4:=m.size)
    |(at_builtin;refine mz rfl (.tmp 10) (.tmp 14) rfl w.heap.size _ c t rfl L (by omega) (by omega) [_] 1 rfl (by decide) (by decide) _ rfl rfl ?_;intro F E a6 ad v))
   go_roundw
   case rel=>exact⟨d-1,c+1,_,a+1,ak,by go_num,by have:=C.out;omega,ad,I.below v x,by omega,by omega,amH (Je i m) v⟩
   case measure=>simp[Ft];omega
  ·obtain rfl:d=0:=by omega
   rcases j.2 with⟨rfl,an⟩|⟨F,E,am,rfl,a5⟩
   ·have ag:=yy;go_wp2;go_ret;exact⟨_,by simp,rfl,a,f,o,by omega,l,i⟩
   ·have ag:=oA j;go_wp2;go_ret;exact⟨_,by rw[rL];have:=B.out;omega,rfl,a,f,o,by omega,l,i⟩
def Ten(n:Nat):Prop:=n=10\/n=20\/n=40\/n=80\/n=160\/n=320\/n=640\/n=1280\/n=2560\/n=5120
theorem Fg{t:ByteArray}(h:Ten t.size)(a:t.size<4000):Ten (t++t).size:=by
 rw[ax];unfold Ten at *;omega
theorem ab6(h:Ten n)(a:¬n<4000):4001<=n:=by unfold Ten at h;omega
theorem ab7(h:Ten n):n<=5120:=by unfold Ten at h;omega
theorem ab8(h:Ten n):10<=n:=by unfold Ten at h;omega
def amI:Ax->Nat| .string t=>t.size|_=>0
def gG(c:Int):Bool:=decide (c=32\/c=9\/c=13)
def ba(c:Int):Bool:=decide ((97<=c/\c<=122)\/(65<=c/\c<=90)\/c=95)
def bc(c:Int):Bool:=decide (48<=c/\c<=57)
theorem Jf(c:Int)(w:V):A2 O 79 #[U Cr c] w fun e w'=>e= Y (B7 (gG c))/\w=w':=by
 rcases(show c=32\/c=9\/c=13\/(c≠32/\c≠9/\c≠13) by omega) with rfl|rfl|rfl|⟨a,b,d⟩
 ·go_in;go_wp2;go_ret;exact⟨rfl,rfl⟩
 ·go_in;go_wp2;go_ret;exact⟨rfl,rfl⟩
 ·go_in;go_wp2;go_ret;exact⟨rfl,rfl⟩
 ·have f:(c==32)=Z:=by simp[a]
  have g:(c==9)=Z:=by simp[b]
  have h:(c==13)=Z:=by simp[d]
  have e:gG c=Z:=by simp[gG,a,b,d]
  rw[e];clear e a b d;go_in;go_wp2;go_ret;exact⟨rfl,rfl⟩
theorem je(c:Int)(w:V):A2 O 125 #[U Cr c] w fun e w'=>e= Y (B7 (bc c))/\w=w':=by
 rcases(show c<48\/57<c\/(48<=c/\c<=57) by omega) with h|h|⟨d,b⟩
 ·have e:bc c=Z:=by simp[bc];omega
  rw[e];clear e;have a:¬48<=c:=by omega
  go_in;go_wp2;go_ret;exact⟨rfl,rfl⟩
 ·have e:bc c=Z:=by simp[bc];omega
  rw[e];clear e;have a:¬c<=57:=by omega
  have b:48<=c:=by omega
  go_in;go_wp2;go_ret;exact⟨rfl,rfl⟩
 ·have e:bc c=B4:=by simp[bc];omega
  rw[e];clear e;go_in;go_wp2;go_ret;exact⟨rfl,rfl⟩
theorem mA(c:Int)(w:V):A2 O 123 #[U Cr c] w fun e w'=>e= Y (B7 (ba c))/\w=w':=by
 rcases(show(97<=c/\c<=122)\/(65<=c/\c<=90)\/c=95\/c<65\/(90<c/\c<97/\c≠95)\/122<c by omega) with⟨f,g⟩|⟨f,g⟩|rfl|h|⟨f,g,k⟩|h
 ·have e:ba c=B4:=by simp[ba];omega
  rw[e];clear e;go_in;go_wp2;go_ret;exact⟨rfl,rfl⟩
 ·have e:ba c=B4:=by simp[ba];omega
  rw[e];clear e;have a:¬97<=c:=by omega
  go_in;go_wp2;go_ret;exact⟨rfl,rfl⟩
 ·go_in;go_wp2;go_ret;exact⟨rfl,rfl⟩
 ·have e:ba c=Z:=by simp[ba];omega
  rw[e];clear e;have a:¬97<=c:=by omega
  have b:¬65<=c:=by omega
  have d:(c==95)=Z:=by simp;omega
  go_in;go_wp2;go_ret;exact⟨rfl,rfl⟩
 ·have e:ba c=Z:=by simp[ba];omega
  rw[e];clear e;have a:¬97<=c:=by omega
  have b:65<=c:=by omega
  have i:¬c<=90:=by omega
  have d:(c==95)=Z:=by simp;omega
  go_in;go_wp2;go_ret;exact⟨rfl,rfl⟩
 ·have e:ba c=Z:=by simp[ba];omega
  rw[e];clear e;have a:97<=c:=by omega
  have b:¬c<=122:=by omega
  have i:65<=c:=by omega
  have j:¬c<=90:=by omega
  have d:(c==95)=Z:=by simp;omega
  go_in;go_wp2;go_ret;exact⟨rfl,rfl⟩
def gg(c:Int):Int:=if 48<=c/\c<=57 then c-48 else if 97<=c/\c<=102 then c-87 else -1
theorem afh:∀n:Fin 256,Lib.indexByte [48,49,50,51,52,53,54,55,56,57,97,98,99,100,101,102] (n.val.toUInt8)=gg (n.val:Int):=by decide+kernel
theorem ajn(c:Int)(b:0<=c)(d:c<256):Lib.indexByte [48,49,50,51,52,53,54,55,56,57,97,98,99,100,101,102] c.toNat.toUInt8=gg c:=by
 have:=afh ⟨c.toNat,by omega⟩;have a:((c.toNat:Nat):Int)=c:=by omega
 simp only[a]at this;exact this
theorem afi(c:Int)(a:0<=c)(b:c<256)(w:V):A2 O 246 #[T ⟨#[48,49,50,51,52,53,54,55,56,57,97,98,99,100,101,102]⟩,U Cr c] w fun e w'=>e= Y (U X (gg c))/\w'=w:=by
 rw[<-ajn c a b];go_in;go_wp2;rw[ab0 Tryz.func254 (by kernel_rfl) (by kernel_rfl) (by kernel_rfl) (e:=Extern.BytealgIndexByte.indexByte) (by kernel_rfl),Lib.run_indexByteString];simp only[Result.andThen];rw[Oper.upon_value];go_wp2;go_ret;exact⟨rfl,rfl⟩
theorem we(c:Int)(a:0<=c)(b:c<256)(w:V):A2 O 228 #[T ⟨#[48,49,50,51,52,53,54,55,56,57,97,98,99,100,101,102]⟩,U Cr c] w fun e w'=>e= Y (U X (gg c))/\w'=w:=by
 go_in;go_wp2_with (go_at_call 246;refine(afi c a b _).mono ?_;rintro e w' ⟨rfl,rfl⟩);go_ret;exact⟨rfl,rfl⟩
def aq(s:ByteArray)(i:Nat):Int:=if h:i<s.size then(s[i].toNat:Int) else -1
theorem jl(h:i<s.size):0<=aq s i/\aq s i<256:=by
 unfold aq;rw[lD h];have:=s[i].toNat_lt;omega
theorem dl(h:¬i<s.size:=by omega):aq s i= -1:=by unfold aq;rw[dif_neg h]
theorem db(h:i<s.size)(w:V):(C4 9 (T s) (U X (i:Int))).run O w= .ok (U Cr (aq s i)) w:=by
 unfold aq;rw[lD h];go_simp
theorem yz(h:i+1<s.size)(w:V):(C4 9 (T s) (U X ((i:Int)+1))).run O w= .ok (U Cr (aq s (i+1))) w:=by
 have:=db h w;have a:((i+1:Nat):Int)=(i:Int)+1:=by omega
 rw[a]at this;exact this
theorem oh(c:Int):gg c<16:=by unfold gg;split;omega;split<;>omega
theorem or4(a b:Int)(e:0<=a)(f:a<256)(g:a%16=0)(c:0<=b)(d:b<16):bits .or X a b=a+b:=
 bits_join X 8 (by decide) (fun h a b=>by rw[di];omega) 4 a b e g f c d (by omega)
theorem or0(b:Int)(a:0<=b)(c:b<16):bits .or X 0 b=b:=by
 have:=or4 0 b (by omega) (by omega) (by omega) a c;rw[this];omega
def hexI(s:ByteArray)(p:Nat):Int×Nat×Bool:=
 if gg (aq s p)<0 then(0,p,Z) else if gg (aq s (p+1))<0 then(0,p+1,Z) else(gg (aq s p)*16+gg (aq s (p+1)),p+1+1,B4)
def afj(r:Int×Nat×Bool):Ax:= Ce #[U Cr r.1,U X (r.2.1:Int),B7 r.2.2]
theorem Jg(s:ByteArray)(u:s.size<=100000)(p:Nat)(k:p+1<s.size)(x y:Int)(f:gg (aq s p)=x)(g:gg (aq s (p+1))=y)(x0:0<=x)(o:0<=y)(w:V):
  A2 O 208 #[T s,U X p] w fun e w'=>e= Y (Ce #[U Cr (x*16+y),U X ((p:Int)+1+1),B7 B4])/\w'=w:=by
 have n:x<16:=by rw[<-f];exact oh _
 have q:y<16:=by rw[<-g];exact oh _
 have l:=fun w=>db (s:=s) (i:=p) (by omega) w;have m:=fun w=>yz (s:=s) (i:=p) (by omega) w;have r:=or0 x x0 n;have t:=or4 (x*16) y (by omega) (by omega) (by omega) o q;have a:=jl (s:=s) (i:=p) (by omega);have b:=jl (s:=s) (i:=p+1) k;obtain⟨h,c⟩:=aA (aq s p);obtain⟨j,d⟩:=aA (aq s (p+1));rw[c]at f l a;rw[d]at g m b;clear c d;go_in;go_wp21
 refine qE 3 ?_;rw[jh];go_wp2_with (go_at_call 228;refine(we h a.1 a.2 _).mono ?_;rintro e w' ⟨rfl,rfl⟩);rw[jh];go_wp2_with (go_at_call 228;refine(we j b.1 b.2 _).mono ?_;rintro e v ⟨rfl,rfl⟩);rw[jh];go_wp2;go_ret3
 exact⟨rfl,rfl⟩
theorem EC(s:ByteArray)(h:s.size<=100000)(p:Nat)(g:p<s.size)(x:Int)(d:gg (aq s p)=x)(x0:x<0)(w:V):
  A2 O 208 #[T s,U X p] w fun e w'=>e= Y (Ce #[U Cr 0,U X (p:Int),B7 Z])/\w'=w:=by
 have f:=fun w=>db (s:=s) (i:=p) (by omega) w;have a:=jl (s:=s) (i:=p) (by omega);obtain⟨c,b⟩:=aA (aq s p);rw[b]at d f a;clear b;go_in;go_wp21
 refine qE 1 ?_;rw[jh];go_wp2_with (go_at_call 228;refine(we c a.1 a.2 _).mono ?_;rintro e w' ⟨rfl,rfl⟩);go_ret3
 exact⟨rfl,rfl⟩
theorem Jh(s:ByteArray)(b:s.size<=100000)(p:Nat)(a:p=s.size)(w:V):
  A2 O 208 #[T s,U X p] w fun e w'=>e= Y (Ce #[U Cr 0,U X (p:Int),B7 Z])/\w'=w:=by
 subst a;go_in;go_wp2_with fail;refine qE 1 ?_;rw[jh];go_wp2;go_ret3
 exact⟨rfl,rfl⟩
theorem CD(s:ByteArray)(n:s.size<=100000)(p:Nat)(j:p+1<s.size)(x y:Int)(f:gg (aq s p)=x)(k:gg (aq s (p+1))=y)(x0:0<=x)(r:y<0)(w:V):
  A2 O 208 #[T s,U X p] w fun e w'=>e= Y (Ce #[U Cr 0,U X ((p:Int)+1),B7 Z])/\w'=w:=by
 have q:x<16:=by rw[<-f];exact oh _
 have l:=fun w=>db (s:=s) (i:=p) (by omega) w;have m:=fun w=>yz (s:=s) (i:=p) (by omega) w;have a:=jl (s:=s) (i:=p) (by omega);have b:=jl (s:=s) (i:=p+1) j;obtain⟨g,c⟩:=aA (aq s p);obtain⟨h,d⟩:=aA (aq s (p+1));rw[c]at f l a;rw[d]at k m b;clear c d;go_in;go_wp21
 refine qE 2 ?_;rw[jh];go_wp2_with (go_at_call 228;refine(we g a.1 a.2 _).mono ?_;rintro e w' ⟨rfl,rfl⟩);rw[jh];go_wp2_with (go_at_call 228;refine(we h b.1 b.2 _).mono ?_;rintro e o ⟨rfl,rfl⟩);go_ret3
 exact⟨rfl,rfl⟩
theorem Ji(s:ByteArray)(h:s.size<=100000)(p:Nat)(f:p+1=s.size)(x:Int)(c:gg (aq s p)=x)(x0:0<=x)(w:V):
  A2 O 208 #[T s,U X p] w fun e w'=>e= Y (Ce #[U Cr 0,U X ((p:Int)+1),B7 Z])/\w'=w:=by
 have l:x<16:=by rw[<-c];exact oh _
 have g:=fun w=>db (s:=s) (i:=p) (by omega) w;have j:((p:Int)+1==(s.size:Int))=B4:=by simp;omega
 have k:p<=100000:=by omega
 have a:=jl (s:=s) (i:=p) (by omega);obtain⟨d,b⟩:=aA (aq s p);rw[b]at c g a;clear b f;go_in;go_wp21
 refine qE 2 ?_;rw[jh];go_wp2_with (go_at_call 228;refine(we d a.1 a.2 _).mono ?_;rintro e w' ⟨rfl,rfl⟩);rw[jh];go_wp2;go_ret3
 exact⟨rfl,rfl⟩
theorem Jj(s:ByteArray)(a:s.size<=100000)(p:Nat)(h:p<=s.size)(w:V):
  A2 O 208 #[T s,U X p] w fun e w'=>e= Y (afj (hexI s p))/\w'=w:=by
 have g:gg (-1)= -1:=by decide
 unfold hexI afj;by_cases f:p<s.size
 ·by_cases c:gg (aq s p)<0
  ·rw[ab c];exact EC s a p f _ rfl c w
  ·rw[aa c];by_cases b:p+1<s.size
   ·by_cases d:gg (aq s (p+1))<0
    ·rw[ab d];exact CD s a p b _ _ rfl rfl (by omega) d w
    ·rw[aa d];exact Jg s a p b _ _ rfl rfl (by omega) (by omega) w
   ·have e:=dl (s:=s) (i:=p+1) b;rw[ab (by rw[e,g];omega)];exact Ji s a p (by omega) _ rfl (by omega) w
 ·have e:=dl (s:=s) (i:=p) f;rw[ab (by rw[e,g];omega)];exact Jh s a p (by omega) w
def gJ(s:ByteArray)(p:Nat):Int×Nat×Bool:=
 if aq s p=110 then(10,p+1,B4) else if aq s p=116 then(9,p+1,B4) else if aq s p=34\/aq s p=92 then(aq s p,p+1,B4) else if aq s p=120 then hexI s (p+1) else(0,p,Z)
theorem Jk(s:ByteArray)(o:s.size<=100000)(p:Nat)(h:p<=s.size)(w:V):
  A2 O 173 #[T s,U X p] w fun e w'=>e= Y (afj (gJ s p))/\w'=w:=by
 by_cases n:p<s.size
 ·have q:=fun w=>db (s:=s) (i:=p) (by omega) w;have x:=jl (s:=s) (i:=p) (by omega);have j:=Jj s o (p+1) (by omega);have m:((p+1:Nat):Int)=(p:Int)+1:=by omega
  rw[m]at j;unfold gJ;obtain⟨a,k⟩:=aA (aq s p);rw[k]at q x⊢;clear k;by_cases b:a=110
  ·subst b;go_in;go_wp2;go_ret3
   exact⟨rfl,rfl⟩
  rw[aa b];have r:(a==110)=Z:=by simp[b]
  by_cases c:a=116
  ·subst c;go_in;go_wp2;go_ret3
   exact⟨rfl,rfl⟩
  rw[aa c];have t:(a==116)=Z:=by simp[c]
  by_cases d:a=34
  ·subst d;go_in;go_wp2;go_ret3
   exact⟨rfl,rfl⟩
  have u:(a==34)=Z:=by simp[d]
  by_cases f:a=92
  ·subst f;go_in;go_wp2;go_ret3
   exact⟨rfl,rfl⟩
  have v:(a==92)=Z:=by simp[f]
  rw[aa (by omega)];by_cases g:a=120
  ·subst g;rw[ab rfl];clear b c d f r t u v;unfold afj at j⊢;go_in;go_wp2_with (go_at_call 208;refine(j _).mono ?_;rintro e w' ⟨rfl,rfl⟩);go_ret3
   exact⟨rfl,rfl⟩
  rw[aa g];have y:(a==120)=Z:=by simp[g]
  clear b c d f g;go_in;go_wp2;go_ret3
  exact⟨rfl,rfl⟩
 ·have e:=dl (s:=s) (i:=p) n;have l:gJ s p=(0,p,Z):=by unfold gJ;rw[e];simp
  rw[l];obtain rfl:p=s.size:=by omega
  clear e l;go_in;go_wp2;go_ret3
  exact⟨rfl,rfl⟩
theorem ab9(s:ByteArray)(p:Nat)(h:p<=s.size):p<=(hexI s p).2.1/\(hexI s p).2.1<=s.size/\0<=(hexI s p).1/\(hexI s p).1<256:=by
 have b:gg (-1)= -1:=by decide
 have g:=oh (aq s p);have j:=oh (aq s (p+1));unfold hexI;split
 ·simp;omega
 ·rename_i c;have e:p<s.size:=by
   rcases aH p s.size with h|h
   ·exact h
   ·have a:=dl (s:=s) (i:=p) (by omega);rw[a,b]at c;omega
  split
  ·simp;omega
  ·rename_i d;have f:p+1<s.size:=by
    rcases aH (p+1) s.size with h|h
    ·exact h
    ·have a:=dl (s:=s) (i:=p+1) (by omega);rw[a,b]at d;omega
   simp;omega
theorem GJ(s:ByteArray)(p:Nat)(h:p<=s.size):p<=(gJ s p).2.1/\(gJ s p).2.1<=s.size/\0<=(gJ s p).1/\(gJ s p).1<256:=by
 unfold gJ;by_cases a:p<s.size
 ·have c:=jl a;split
  ·simp;omega
  split
  ·simp;omega
  split
  ·simp;omega
  split
  ·have:=ab9 s (p+1) (by omega);omega
  ·simp;omega
 ·have b:=dl (s:=s) (i:=p) a;rw[b];simp;omega
theorem Jl(s:ByteArray)(p:Nat)(h:p<=s.size)(c:(gJ s p).2.2=B4):p+1<=(gJ s p).2.1:=by
 revert c;unfold gJ;split
 ·simp
 split
 ·simp
 split
 ·simp
 split
 ·rename_i a;have d:p<s.size:=by
   rcases aH p s.size with h|h
   ·exact h
   ·have b:=dl (s:=s) (i:=p) (by omega);rw[b]at a;omega
  intro _;exact(ab9 s (p+1) (by omega)).1
 ·simp
def gH(b:Nat)(w:V)(s:ByteArray)(m:Ax)(fr p l:Int)(k:Bool):Prop:=
 w.heap[b]?=M (B1 #[T s,m,U X fr,U X p,U X l,B7 k] 100 (0,0))
def dE(b:Nat)(w:V)(k f t l n:Int)(x:ByteArray):Prop:=
 w.heap[b]?=M (B1 #[U X k,U X f,U X t,U X l,U X n,T x] 49 (0,0))
theorem fK(h:gH b w s m fr p l k):
  w.cell? ⟨b,0,S⟩=M (T s)/\w.cell? ⟨b,1,S⟩=M m/\w.cell? ⟨b,3,S⟩=M (U X p)/\w.cell? ⟨b,4,S⟩=M (U X l)/\w.cell? ⟨b,5,S⟩=M (B7 k)/\
  w.frozen? ⟨b,3,S⟩=Z/\w.frozen? ⟨b,4,S⟩=Z/\w.frozen? ⟨b,5,S⟩=Z:=by
 unfold gH at h;exact⟨by rw[au _ _ _ _ _ _ h];rfl,by rw[au _ _ _ _ _ _ h];rfl,by rw[au _ _ _ _ _ _ h];rfl,by rw[au _ _ _ _ _ _ h];rfl,by rw[au _ _ _ _ _ _ h];rfl,bI _ _ _ _ _ h,bI _ _ _ _ _ h,bI _ _ _ _ _ h⟩
theorem GK(h:gH b w s m fr p l k):w.cell? ⟨b,2,S⟩=M (U X fr)/\w.frozen? ⟨b,2,S⟩=Z:=by
 unfold gH at h;exact⟨by rw[au _ _ _ _ _ _ h];rfl,bI _ _ _ _ _ h⟩
theorem gH.setF(h:gH b w s m fr p l k)(x:Int):gH b (w.setCell ⟨b,2,S⟩ (U X x)) s m x p l k:=aL w b 2 _ _ _ h
theorem aJ{k t n:Int}{x:ByteArray}(h:dE b w k f t l n x):
  w.cell? ⟨b,0,S⟩=M (U X k)/\w.cell? ⟨b,1,S⟩=M (U X f)/\w.cell? ⟨b,2,S⟩=M (U X t)/\w.cell? ⟨b,3,S⟩=M (U X l)/\w.cell? ⟨b,4,S⟩=M (U X n)/\w.cell? ⟨b,5,S⟩=M (T x)/\
  (∀j,w.frozen? ⟨b,j,S⟩=Z):=by
 unfold dE at h;exact⟨by rw[au _ _ _ _ _ _ h];rfl,by rw[au _ _ _ _ _ _ h];rfl,by rw[au _ _ _ _ _ _ h];rfl,by rw[au _ _ _ _ _ _ h];rfl,by rw[au _ _ _ _ _ _ h];rfl,by rw[au _ _ _ _ _ _ h];rfl,fun j=>bI _ _ _ _ _ h⟩
theorem gH.setP(h:gH b w s m fr p l k)(x:Int):gH b (w.setCell ⟨b,3,S⟩ (U X x)) s m fr x l k:=aL w b 3 _ _ _ h
theorem gH.setL(h:gH b w s m fr p l k)(x:Int):gH b (w.setCell ⟨b,4,S⟩ (U X x)) s m fr p x k:=aL w b 4 _ _ _ h
theorem gH.setK(h:gH b w s m fr p l k)(x:Bool):gH b (w.setCell ⟨b,5,S⟩ (B7 x)) s m fr p l x:=aL w b 5 _ _ _ h
theorem gH.other(h:gH b w s m fr p l k)(c:b≠a.block)(v:Ax):gH b (w.setCell a v) s m fr p l k:=(aC w a b v c).trans h
theorem gH.drewN(h:gH b w s m fr p l k)(n:Nat):gH b (w.drewN n) s m fr p l k:=h
theorem gH.below(h:gH b w s m fr p l k)(a:A5 B w w')(c:b<B):gH b w' s m fr p l k:=(a.block b c).trans h
theorem dE.other{k t n:Int}{x:ByteArray}(h:dE b w k f t l n x)(c:b≠a.block)(v:Ax):dE b (w.setCell a v) k f t l n x:=(aC w a b v c).trans h
theorem dE.drewN{k t n:Int}{x:ByteArray}(h:dE b w k f t l n x)(q:Nat):dE b (w.drewN q) k f t l n x:=h
theorem dE.below{k t n:Int}{x:ByteArray}(h:dE b w k f t l n x)(a:A5 B w w')(c:b<B):dE b w' k f t l n x:=(a.block b c).trans h
theorem dE.setKind{k t n:Int}{x:ByteArray}(h:dE b w k f t l n x)(y:Int):dE b (w.setCell ⟨b,0,S⟩ (U X y)) y f t l n x:=aL w b 0 _ _ _ h
theorem dE.setTo{k t n:Int}{x:ByteArray}(h:dE b w k f t l n x)(y:Int):dE b (w.setCell ⟨b,2,S⟩ (U X y)) k f y l n x:=aL w b 2 _ _ _ h
theorem dE.setNum{k t n:Int}{x:ByteArray}(h:dE b w k f t l n x)(y:Int):dE b (w.setCell ⟨b,4,S⟩ (U X y)) k f t l y x:=aL w b 4 _ _ _ h
theorem dE.setText{k t n:Int}{x:ByteArray}(h:dE b w k f t l n x)(y:ByteArray):dE b (w.setCell ⟨b,5,S⟩ (T y)) k f t l n y:=aL w b 5 _ _ _ h
def dI(s:ByteArray):Nat->Nat->List Int->Bool×Nat×List Int
 |0,p,a=>(Z,p,a)
 |f+1,p,a=>if s.size<=p then(Z,p,a) else if aq s p=34 then(B4,p+1,a) else if aq s p=10 then(Z,p,a) else if aq s p=92 then
   (if(gJ s (p+1)).2.2=B4 then dI s f (gJ s (p+1)).2.1 (a++[(gJ s (p+1)).1]) else(Z,(gJ s (p+1)).2.1,a))
  else dI s f (p+1) (a++[aq s p])
theorem sa(s:ByteArray):∀(f p:Nat)(a:List Int),p<=s.size->p<=(dI s f p a).2.1/\(dI s f p a).2.1<=s.size/\(dI s f p a).2.2.length<=a.length+(s.size-p)
 |0,p,a,h=>by simp[dI];omega
 |f+1,p,a,h=>by
  unfold dI;split
  ·simp;omega
  split
  ·simp;omega
  split
  ·simp;omega
  split
  ·have e:=GJ s (p+1) (by omega);split
   ·rename_i b;have:=sa s f (gJ s (p+1)).2.1 (a++[(gJ s (p+1)).1]) e.2.1;simp at this⊢;omega
   ·simp;omega
  ·have:=sa s f (p+1) (a++[aq s p]) (by omega);simp at this⊢;omega
structure sJ (b t:Nat) (w w':V):Prop where
 os:w'.os=w.os
 tape:w'.tape=w.tape
 output:w'.output=w.output
 size:w.heap.size<=w'.heap.size
 block:∀k,k<w.heap.size->k≠b->k≠t->w'.heap[k]?=w.heap[k]?
theorem sJ.refl(b t:Nat)(w:V):sJ b t w w:=⟨rfl,rfl,rfl,ae _,fun _ _ _ _=>rfl⟩
theorem sJ.trans{x:V}(h:sJ b t x y)(k:sJ b t y z):sJ b t x z:=
 ⟨k.os.trans h.os,k.tape.trans h.tape,k.output.trans h.output,bg h.size k.size,fun e d a c=>(k.block e (gh d h.size) a c).trans (h.block e d a c)⟩
theorem sJ.drewN{x:V}(h:sJ b t x y)(n:Nat):sJ b t x (y.drewN n):=⟨h.os,h.tape,h.output,h.size,h.block⟩
theorem sJ.drew{x:V}(h:sJ b t x y):sJ b t x y.drew:=⟨h.os,h.tape,h.output,h.size,h.block⟩
theorem sJ.setB{x:V}(h:sJ b t x y)(i:Nat)(v:Ax):sJ b t x (y.setCell ⟨b,i,S⟩ v):=
 ⟨h.os,h.tape,h.output,by simpa [B6] using h.size,fun e d a c=>by rw[aC _ _ _ _ a];exact h.block e d a c⟩
theorem sJ.setT{x:V}(h:sJ b t x y)(i:Nat)(v:Ax):sJ b t x (y.setCell ⟨t,i,S⟩ v):=
 ⟨h.os,h.tape,h.output,by simpa [B6] using h.size,fun e d c a=>by rw[aC _ _ _ _ a];exact h.block e d c a⟩
theorem sJ.below{x:V}(h:sJ b t x y)(k:A5 x.heap.size y z):sJ b t x z:=
 ⟨k.os.trans h.os,k.tape.trans h.tape,k.output.trans h.output,bg h.size k.size,fun c a d e=>(k.block c a).trans (h.block c a d e)⟩
theorem aca{c:List Oper}{a:Act}(i:o.guard=S)(s x:Operand)
  (r:o.op= .call {callee:= .builtin .append,args:=#[s,x],argTypes:=#[22,22]}) (base:Nat) (v:Ax) (n:Nat) (l:List Int) (u:a.eval s=v)
  (t:w.ownsRow base 5 1 v n (B8 l)) (e:base<=w.heap.size) (q:n<=100000) (b:List Int) (m:Nat) (j:b.length=m) (k:0<m) (p:m<=100) (cs:Array Ax) (f:cs.toList=B8 b)
  (H:Nat) (y:a.eval x= A0 (M ⟨H,0,S⟩) m m) (d:w.heap.size=H)
  (h:∀g cap w1,w1.ownsRow base 5 1 (A0 (M ⟨g,0,S⟩) (n+m) cap) (n+m) (B8 (l++b))->A5 base w w1->wpList O ops Q c (a.put o.dst (A0 (M ⟨g,0,S⟩) (n+m) cap)) w1):
  wpList O ops Q (o::c) a (w.alloc (B1 cs 5)):=by
 subst d;exact mz i s x r base v n l u t e q b m j k p cs f y h
theorem se(w:V)(n:Nat)(a:Addr)(v:Ax):((w.drewN n).setCell a v).heap.size=w.heap.size:=by simp[B6,World.drewN]
theorem arl{size:Nat}(h:w.ownsRow base e size v n xs)(c:b<base)(q r:Nat)(x y:Ax):((((w.drewN q).setCell ⟨b,3,S⟩ x).drewN r).setCell ⟨b,3,S⟩ y).ownsRow base e size v n xs:=by
 have d:=kI (w:=w.drewN q) (a:=⟨b,3,S⟩) h c x;exact kI (w:=((w.drewN q).setCell ⟨b,3,S⟩ x).drewN r) (a:=⟨b,3,S⟩) d c y
def Fh(b:Nat)(w:V):Nat:=match w.cell? ⟨b,3,S⟩ with|some (.int _ a)=>a.toNat|_=>0
theorem ux{p:Nat}(h:gH b w s m fr p l k):Fh b w=p:=by
 unfold Fh;rw[(fK h).2.2.1];simp
def mK(b t:Nat)(c:V)(s:ByteArray)(m:Ax)(fr:Int)(l f d:Int)(a:Bool×Nat×List Int):Prop:=
 if a.1=B4 then gH b c s m fr a.2.1 l Z/\dE t c 4 f 0 d 0 (ey a.2.2) else gH b c s m fr a.2.1 l B4/\dE t c 0 f 0 d 0 A9
theorem mK.yes{c:Int}{p:Nat}{a:List Int}(h:(B4,p,a)=R)(d:gH b w' s m fr p l Z)(e:dE t w' 4 f 0 c 0 (ey a)):mK b t w' s m fr l f c R:=by
 subst h;unfold mK;rw[ab rfl];exact⟨d,e⟩
theorem mK.no{c:Int}{p:Nat}{a:List Int}(h:(Z,p,a)=R)(d:gH b w' s m fr p l B4)(e:dE t w' 0 f 0 c 0 A9):mK b t w' s m fr l f c R:=by
 subst h;unfold mK;rw[aa (by simp)];exact⟨d,e⟩
theorem acb(p:Nat):((p+1:Nat):Int)=(p:Int)+1:=by omega
theorem CF(s:ByteArray)(bn:s.size<=70000)(b t:Nat)(w:V)(m:Ax)(p:Nat)(l f H:Int)(br:p<s.size)(g:b≠t)(hS:gH b w s m fr p l Z)(ap:dE t w 0 f 0 H 0 A9):
  A2 O 127 #[B3 (M ⟨b,0,S⟩),B3 (M ⟨t,0,S⟩)] w fun e w'=>e= Y (Ce #[])/\sJ b t w w'/\
   mK b t w' s m fr l f H (dI s (s.size+1) (p+1) []):=by
 obtain⟨a8,E⟩:=aA (dI s (s.size+1) (p+1) []);rw[E];have a7:=aw E;clear E;have y:=ai hS;have a3:=ai ap;obtain⟨J,K,L,ad,af,ak,al,am⟩:=fK hS;go_in;go_wp21
 go_loopw [4] (fun bj wr=>∃(d r k:Nat) (j:List Int),gH b wr s m fr d l Z/\dE t wr 0 f 0 H 0 A9/\wr.ownsRow w.heap.size 5 1 bj r (B8 j)/\s.size<d+k/\d<=s.size/\r<=d/\Hid (dI s k d j=a8)/\sJ b t w wr) (fun _ wr=>s.size-Fh b wr)
 case atStart=>exact⟨p+1,0,s.size+1,[],hS.setP _,ap.other (dz g) _,cE _ _ _ _,by omega,by omega,by omega,a7,(sJ.refl b t w).setB _ _⟩
 case round=>
  obtain⟨d,r,k,j,i,n,z,bl,bs,bo,I,o⟩:=hrel;clear J K L ad af ak al am;obtain⟨J,K,L,ad,af,ak,al,am⟩:=fK i;obtain⟨bw,bx,bA,bD,bE,b0,b1⟩:=aJ n;have a2:=o.size;obtain⟨k,rfl⟩:∃A,k=A+1:=⟨k-1,by omega⟩;by_cases a1:d<s.size
  ·have be:=jl a1;have bb:=fun w=>db a1 w;have c:=I.out;unfold dI at c;rw[aa (by omega)]at c;obtain⟨v,a0⟩:=aA (aq s d);rw[a0]at be bb c;clear a0;by_cases B:v=34
   ·subst B;rw[ab rfl]at c;have h:=aw c;clear c;rcases z.2 with⟨rfl,a9⟩|⟨A,ag,bk,rfl,bt⟩
    ·have ar:j=[]:=by have:=yw z;rw[a9]at this;exact nK this
     have a6:=aw ar;clear ar;have bd:=yy;go_wp21
     go_quiet (fail)
     go_wp21
     go_quiet (fail)
     go_wp2;refine aI (ip rfl _ _ _) rfl ?_;refine⟨rfl,(((o.drewN _).setB _ _).setT _ _).setT _ _,mK.yes h (by rw[acb];exact(((i.drewN _).setP _).other g _).other g _) ?_⟩;rw[a6.out];exact(((n.drewN _).other (dz g) _).setKind _).setText _
    ·have bd:=fun bh=>oA (kI (w:=wr.drewN bh) (a:=⟨b,3,S⟩) z y (U X ((d:Int)+1)));go_wp21
     go_quiet (fail)
     go_wp21
     go_quiet (fail)
     go_wp2;refine aI (ip rfl _ _ _) rfl ?_;exact⟨rfl,(((o.drewN _).setB _ _).setT _ _).setT _ _,mK.yes h (by rw[acb];exact(((i.drewN _).setP _).other g _).other g _) ((((n.drewN _).other (dz g) _).setKind _).setText _)⟩
   rw[aa B]at c;by_cases C:v=10
   ·subst C;rw[ab rfl]at c;have h:=aw c;clear c;go_wp21
    go_quiet (fail)
    go_wp21
    go_quiet (fail)
    go_wp2;refine aI (ip rfl _ _ _) rfl ?_;exact⟨rfl,(o.drewN _).setB _ _,mK.no h ((i.drewN _).setK _) ((n.drewN _).other (dz g) _)⟩
   rw[aa C]at c;by_cases an:v=92
   ·subst an;rw[ab rfl]at c;have u:=Jk s (by omega) (d+1) (by omega);have av:=GJ s (d+1) (by omega);have F:=Jl s (d+1) (by omega);rw[acb]at u;obtain⟨a5,ao⟩:=aA (gJ s (d+1));rw[ao]at u av F c;clear ao B C;obtain⟨a4,e,bf⟩:=a5;simp only at av F c;unfold afj at u;simp only at u;cases bf
    ·rw[aa (by simp)]at c;have h:=aw c;clear c;go_wp21
     go_quiet (fail)
     go_wp21
     go_quiet (fail)
     go_wp21
     go_quiet ((go_at_call 173;exact Calls.quiet_of_same (u _)))
     go_wp2;refine aI (ip rfl _ _ _) rfl ?_;exact⟨rfl,(((((o.drewN _).setB _ _).drewN _).setB _ _).setB _ _),mK.no h (((((i.drewN _).setP _).drewN _).setP _).setK _) (((((n.drewN _).other (dz g) _).drewN _).other (dz g) _).other (dz g) _)⟩
    ·rw[ab rfl]at c;have h:=aw c;clear c F;go_wp21
     go_quiet (fail)
     go_wp21
     go_quiet (fail)
     go_wp21
     go_quiet ((go_at_call 173;exact Calls.quiet_of_same (u _)))
     go_wp2_with (at_builtin;refine aca rfl (.tmp 100) (.tmp 102) rfl w.heap.size _ r j rfl (arl z y _ _ _ _) (by rw[se,se];exact a2) (by omega) [a4] 1 rfl (by decide) (by decide) _ rfl wr.heap.size rfl (by rw[se,se]) ?_;intro A ag w1 G q);have x:=((((i.drewN _).setP _).drewN _).setP _).below q y;go_roundw
     case rel=>exact⟨e,r+1,k,j++[a4],x,((((n.drewN _).other (dz g) _).drewN _).other (dz g) _).below q a3,G,by omega,by omega,by omega,h,((((o.drewN _).setB _ _).drewN _).setB _ _).below q⟩
     case measure=>rw[ux x,ux i];omega
   rw[aa an]at c;have h:=aw c;clear c;go_wp21
   go_quiet (fail)
   go_wp21
   go_quiet (fail)
   go_wp2_with (at_builtin;refine aca rfl (.tmp 43) (.tmp 45) rfl w.heap.size _ r j rfl (kI (a:=⟨b,3,S⟩) (w:=wr.drewN _) z y _) (by rw[se];exact a2) (by omega) [v] 1 rfl (by decide) (by decide) _ rfl wr.heap.size rfl (se _ _ _ _) ?_;intro A ag w1 G q);have x:gH b w1 s m fr ((d+1:Nat):Int) l Z:=by rw[acb];exact((i.drewN _).setP _).below q y
   go_roundw
   case rel=>exact⟨d+1,r+1,k,j++[v],x,((n.drewN _).other (dz g) _).below q a3,G,by omega,by omega,by omega,h,((o.drewN _).setB _ _).below q⟩
   case measure=>rw[ux x,ux i];omega
  ·have c:=I.out;unfold dI at c;rw[ab (by omega)]at c;have h:=aw c;clear c;obtain rfl:d=s.size:=by omega
   go_wp21
   go_quiet (fail)
   go_wp2;go_end0
   exact⟨rfl,(o.drewN _).setB _ _,mK.no h ((i.drewN _).setK _) ((n.drewN _).other (dz g) _)⟩
theorem xm{x:V}(h:w.grownBy x (M b))(v:Ax)(f:w.heap.size<=a.block):w.grownBy (x.setCell a v) (M b):=
 ⟨h.os,h.tape,h.output,by simpa [B6] using h.size,fun e c d=>by rw[aC _ _ _ _ (by omega)];exact h.block e c d⟩
theorem amJ{x:V}(h:A5 w.heap.size w x)(k:sJ b t x y)(f:w.heap.size<=t):w.grownBy y (M b):=
 ⟨k.os.trans h.os,k.tape.trans h.tape,k.output.trans h.output,bg h.size k.size,fun c a e=>(k.block c (gh a h.size) (fun d=>e (by rw[d])) (by omega)).trans (h.block c a)⟩
open Go.Maps Go.WideMaps
def eu:Array Ax:=#[T ⟨#[97,110,100]⟩,T ⟨#[98,114,101,97,107]⟩,T ⟨#[99,97,116,99,104]⟩,T ⟨#[99,111,110,115,116]⟩,T ⟨#[100,101,102,101,114]⟩,T ⟨#[101,108,105,102]⟩,T ⟨#[101,108,115,101]⟩,T ⟨#[102,97,108,115,101]⟩,T ⟨#[102,110]⟩,T ⟨#[102,111,114]⟩,T ⟨#[105,102]⟩,T ⟨#[105,110]⟩,T ⟨#[108,101,116]⟩,T ⟨#[110,101,120,116]⟩,T ⟨#[110,105,108]⟩,T ⟨#[110,111,116]⟩,T ⟨#[111,114]⟩,T ⟨#[114,101,116,117,114,110]⟩,T ⟨#[116,104,114,111,119]⟩,T ⟨#[116,114,117,101]⟩,T ⟨#[116,114,121]⟩,T ⟨#[119,104,105,108,101]⟩]
def lE(k:Nat):ByteArray:=match eu[k]? with|some (.string s)=>s|_=>A9
theorem arm(k:Nat)(a:k<22)(w:V):(C4 141 (.agg eu) (U X (k:Int))).run O w= .ok (T (lE k)) w:=by
 rcases(show k=0\/k=1\/k=2\/k=3\/k=4\/k=5\/k=6\/k=7\/k=8\/k=9\/k=10\/k=11\/k=12\/k=13\/k=14\/k=15\/k=16\/k=17\/k=18\/k=19\/k=20\/k=21 by omega) with rfl|rfl|rfl|rfl|rfl|rfl|rfl|rfl|rfl|rfl|rfl|rfl|rfl|rfl|rfl|rfl|rfl|rfl|rfl|rfl|rfl|rfl;all_goals kernel_rfl
theorem Jm:∀k:Fin 22,(lE k.val).size<=100:=by decide
def yA{H:Type}:Nat->DataW H
 |0=> .map []
 |k+1=>(yA k).put (.string (lE k).data.toList) (.lit (.int .i64 (10+(k:Int))))
theorem ajo:Keyed O 9:=string_keyed Tryz.underlying9
theorem rB{H:Type}(w:V)(fr:Nat×Nat)(f:C5)(g:w.heap[0]?=M (.cells eu f fr)):
  A2 O 45 #[] w fun e w'=>e= .returned (.map (M w.heap.size))/\w'.ownsMap O 9 (plainElem (H:=H) O 3) w.heap.size 22 (yA 22)/\A5 w.heap.size w w':=by
 have b:=ai g;have q:∀w:V,(Instr.makeMap 97 (M (.int .i64 22))).run O w= .ok (.map (M w.heap.size)) (w.alloc (.map #[] 0)):=fun w=>by kernel_rfl
 have i:(w.alloc (.map #[] 0)).heap[0]?=M (.cells eu f fr):=(cC w _ _ b).trans g;go_in;go_wp2_with (refine vE rfl 141 _ rfl 0 rfl f _ fr _ i Tryz.underlying141 rfl (by kernel_rfl) ?_);go_loopw [6] (fun d wr=>∃a:Nat,a<=22/\d= .int .i64 a/\wr.ownsMap O 9 (plainElem (H:=H) O 3) w.heap.size a (yA a)/\A5 w.heap.size w wr) (fun d _=>22-(Ft d).toNat)
 case atStart=>exact⟨0,by omega,rfl,World.ownsMap_made _ _ _ _,(ah _ _).alloc (ae _) _⟩
 case round=>
  obtain⟨a,p,rfl,h,c⟩:=hrel;by_cases b:a<22
  ·have o:=fun w=>arm a b w;have r:(lE a).size<=100:=Jm ⟨a,b⟩;have l:keyOf O 9 (.string (lE a))=M (.string (lE a).data.toList):=keyOf_string_mk Tryz.underlying9 (by unfold C6;omega);have n:Hid (yA (H:=H) (a+1)=(yA a).put (.string (lE a).data.toList) (.lit (.int .i64 (10+(a:Int))))):=rfl;go_wp2_with (at_mapUpdate;refine wpList_mapUpdate_own _ rfl _ _ _ 97 rfl 9 3 ajo Tryz.underlying97 _ w.heap.size a _ rfl h (by unfold C6;omega) _ _ _ rfl rfl l _ [] (plainElem_int Tryz.underlying3 (WalkArith.wf_i64 (by omega))) ?_;intro w1 m j);go_roundw
   case rel=>exact⟨a+1,by omega,by go_num,by rw[n.out];exact m,c.grown j c.size (fun s k=>by cases k;exact ae _)⟩
   case measure=>simp[Ft];omega
  ·obtain rfl:a=22:=by omega
   go_wp2;go_ret;exact⟨rfl,h,c⟩
end Go.Proofs.YtnlhhmlcjbohbaaGreatDoor
namespace Go.Proofs
open Go.Shelf
def Tryz.lays103_ren:Br:=⟨fun|103=>205|210=>224|206=>122|n=>n,fun|9=>9|4=>4|24=>234|3=>3|n=>n,fun|n=>n⟩
theorem Tryz.lays103:Go.Proofs.Lays.n103 O Tryz.lays103_ren:={
 mixed:=by kernel_rfl
 f103:=Tryz.func205.trans (congrArg M (by kernel_rfl))
 f206:=Tryz.func122.trans (congrArg M (by kernel_rfl))
 f210:=Tryz.func224.trans (congrArg M (by kernel_rfl))
 t3:=Tryz.underlying3
 a3:=Ck
 z3:=B0
 v3:=Tryz.zeroValue3
 t4:=Tryz.underlying4
 a4:=Tryz.isAgg4
 z4:=Tryz.sizeOf4
 v4:=Tryz.zeroValue4
 t9:=Tryz.underlying9
 a9:=Tryz.isAgg9
 z9:=Tryz.sizeOf9
 v9:=Tryz.zeroValue9
 t24:=Tryz.underlying234
 a24:=Tryz.isAgg234
 z24:=Tryz.sizeOf234
 v24:=Tryz.zeroValue234}
open Go.RowKit in
theorem Tryz.strings_CutPrefix(s p:ByteArray)(w:V):
  A2 O 205 #[T s,T p] w fun e w'=>e= Y (Ce #[T ⟨(Lib.trimPrefix s.data.toList p.data.toList).toArray⟩,B7 (Lib.hasPrefix s.data.toList p.data.toList)])/\w'=w:=Any.strings_CutPrefix Tryz.lays103 s p w
def Tryz.lays104_ren:Br:=⟨fun|104=>220|211=>238|207=>251|n=>n,fun|9=>9|4=>4|24=>234|3=>3|n=>n,fun|n=>n⟩
theorem Tryz.lays104:Go.Proofs.Lays.n104 O Tryz.lays104_ren:={
 mixed:=by kernel_rfl
 f104:=Tryz.func220.trans (congrArg M (by kernel_rfl))
 f207:=Tryz.func251.trans (congrArg M (by kernel_rfl))
 f211:=Tryz.func238.trans (congrArg M (by kernel_rfl))
 t3:=Tryz.underlying3
 a3:=Ck
 z3:=B0
 v3:=Tryz.zeroValue3
 t4:=Tryz.underlying4
 a4:=Tryz.isAgg4
 z4:=Tryz.sizeOf4
 v4:=Tryz.zeroValue4
 t9:=Tryz.underlying9
 a9:=Tryz.isAgg9
 z9:=Tryz.sizeOf9
 v9:=Tryz.zeroValue9
 t24:=Tryz.underlying234
 a24:=Tryz.isAgg234
 z24:=Tryz.sizeOf234
 v24:=Tryz.zeroValue234}
open Go.RowKit in
theorem Tryz.strings_CutSuffix(s p:ByteArray)(w:V)(a:s.size<=9223372036854775807):
  A2 O 220 #[T s,T p] w fun e w'=>e= Y (Ce #[T ⟨(Lib.trimSuffix s.data.toList p.data.toList).toArray⟩,B7 (Lib.hasSuffix s.data.toList p.data.toList)])/\w'=w:=Any.strings_CutSuffix Tryz.lays104 s p w a
def Tryz.laysM316_ren:Br:=⟨fun|316=>202|n=>n,fun|9=>9|3=>3|4=>4|37=>22|0=>0|127=>260|5=>5|n=>n,fun|n=>n⟩
theorem Tryz.laysM316:Go.Proofs.LaysM.n316 O Tryz.laysM316_ren:={
 mixed:=by kernel_rfl
 f316:=Tryz.func202.trans (congrArg M (by kernel_rfl))
 t0:=Tryz.underlying0
 a0:=Tryz.isAgg0
 z0:=Tryz.sizeOf0
 v0:=Tryz.zeroValue0
 t3:=Tryz.underlying3
 a3:=Ck
 z3:=B0
 v3:=Tryz.zeroValue3
 t4:=Tryz.underlying4
 a4:=Tryz.isAgg4
 z4:=Tryz.sizeOf4
 v4:=Tryz.zeroValue4
 t9:=Tryz.underlying9
 a9:=Tryz.isAgg9
 z9:=Tryz.sizeOf9
 v9:=Tryz.zeroValue9
 t37:=Tryz.underlying22
 a37:=Tryz.isAgg22
 z37:=Tryz.sizeOf22
 v37:=Tryz.zeroValue22
 t127:=Tryz.underlying260
 a127:=Tryz.isAgg260
 z127:=Tryz.sizeOf260
 v127:=Tryz.zeroValue260
 t5:=Tryz.underlying5
 a5:=Tryz.isAgg5
 z5:=Tryz.sizeOf5
 v5:=Tryz.zeroValue5
 i0:=by kernel_rfl
 i3:=by kernel_rfl
 i4:=by kernel_rfl
 i5:=by kernel_rfl
 i9:=by kernel_rfl
 i37:=by kernel_rfl
 i127:=by kernel_rfl}
open Go.RowKit in
theorem Tryz.stringslite_Clone(s:ByteArray)(w:V)(a:s.size<=281474976710656):
  A2 O 202 #[T s] w fun e w'=>e= Y (T s)/\A5 w.heap.size w w':=Any.stringslite_Clone Tryz.laysM316 s w a
def Tryz.lays321_ren:Br:=⟨fun|321=>240|n=>n,fun|5=>5|n=>n,fun|n=>n⟩
theorem Tryz.lays321:Go.Proofs.Lays.n321 O Tryz.lays321_ren:={
 mixed:=by kernel_rfl
 f321:=Tryz.func240.trans (congrArg M (by kernel_rfl))
 t5:=Tryz.underlying5
 a5:=Tryz.isAgg5
 z5:=Tryz.sizeOf5
 v5:=Tryz.zeroValue5}
open Go.RowKit in
theorem Tryz.internal_strconv_lower(c:Int)(w:V):
  A2 O 240 #[U Cr c] w fun e w'=>e= Y (U Cr (bits .or Cr c 32))/\w'=w:=Any.internal_strconv_lower Tryz.lays321 c w
def Tryz.laysC174_ren:Br:=⟨fun|174=>207|247=>227|245=>226|287=>225|279=>242|280=>243|281=>244|282=>245|321=>240|322=>241|316=>202|171=>253|205=>252|243=>257|246=>258|283=>259|284=>260|285=>261|286=>262|129=>264|317=>263|318=>265|319=>266|320=>267|337=>268|338=>269|n=>n,fun|9=>9|3=>3|2=>2|75=>243|85=>246|4=>4|167=>272|5=>5|53=>41|175=>244|46=>138|168=>274|37=>22|0=>0|210=>286|21=>21|127=>260|145=>301|143=>299|171=>305|173=>308|212=>311|51=>264|20=>20|213=>312|232=>315|233=>316|80=>44|n=>n,fun|15=>6|16=>7|17=>9|18=>10|19=>11|n=>n⟩
theorem Tryz.laysC174:Go.Proofs.LaysC.n174 O Tryz.laysC174_ren:={
 mixed:=by kernel_rfl
 f129:=Tryz.func264.trans (congrArg M (by kernel_rfl))
 f171:=Tryz.func253.trans (congrArg M (by kernel_rfl))
 f174:=Tryz.func207.trans (congrArg M (by kernel_rfl))
 f205:=Tryz.func252.trans (congrArg M (by kernel_rfl))
 f243:=Tryz.func257.trans (congrArg M (by kernel_rfl))
 f245:=Tryz.func226.trans (congrArg M (by kernel_rfl))
 f246:=Tryz.func258.trans (congrArg M (by kernel_rfl))
 f247:=Tryz.func227.trans (congrArg M (by kernel_rfl))
 f279:=Tryz.func242.trans (congrArg M (by kernel_rfl))
 f280:=Tryz.func243.trans (congrArg M (by kernel_rfl))
 f281:=Tryz.func244.trans (congrArg M (by kernel_rfl))
 f282:=Tryz.func245.trans (congrArg M (by kernel_rfl))
 f283:=Tryz.func259.trans (congrArg M (by kernel_rfl))
 f284:=Tryz.func260.trans (congrArg M (by kernel_rfl))
 f285:=Tryz.func261.trans (congrArg M (by kernel_rfl))
 f286:=Tryz.func262.trans (congrArg M (by kernel_rfl))
 f287:=Tryz.func225.trans (congrArg M (by kernel_rfl))
 f316:=Tryz.func202.trans (congrArg M (by kernel_rfl))
 f317:=Tryz.func263.trans (congrArg M (by kernel_rfl))
 f318:=Tryz.func265.trans (congrArg M (by kernel_rfl))
 f319:=Tryz.func266.trans (congrArg M (by kernel_rfl))
 f320:=Tryz.func267.trans (congrArg M (by kernel_rfl))
 f321:=Tryz.func240.trans (congrArg M (by kernel_rfl))
 f322:=Tryz.func241.trans (congrArg M (by kernel_rfl))
 f337:=Tryz.func268.trans (congrArg M (by kernel_rfl))
 f338:=Tryz.func269.trans (congrArg M (by kernel_rfl))
 t0:=Tryz.underlying0
 a0:=Tryz.isAgg0
 z0:=Tryz.sizeOf0
 v0:=Tryz.zeroValue0
 t2:=Tryz.underlying2
 a2:=Tryz.isAgg2
 z2:=Tryz.sizeOf2
 v2:=Tryz.zeroValue2
 t3:=Tryz.underlying3
 a3:=Ck
 z3:=B0
 v3:=Tryz.zeroValue3
 t4:=Tryz.underlying4
 a4:=Tryz.isAgg4
 z4:=Tryz.sizeOf4
 v4:=Tryz.zeroValue4
 t5:=Tryz.underlying5
 a5:=Tryz.isAgg5
 z5:=Tryz.sizeOf5
 v5:=Tryz.zeroValue5
 t9:=Tryz.underlying9
 a9:=Tryz.isAgg9
 z9:=Tryz.sizeOf9
 v9:=Tryz.zeroValue9
 t20:=Tryz.underlying20
 a20:=Tryz.isAgg20
 z20:=Tryz.sizeOf20
 v20:=Tryz.zeroValue20
 t21:=Tryz.underlying21
 a21:=Tryz.isAgg21
 z21:=Tryz.sizeOf21
 v21:=Tryz.zeroValue21
 t37:=Tryz.underlying22
 a37:=Tryz.isAgg22
 z37:=Tryz.sizeOf22
 v37:=Tryz.zeroValue22
 t46:=Tryz.underlying138
 a46:=Tryz.isAgg138
 z46:=Tryz.sizeOf138
 v46:=Tryz.zeroValue138
 t51:=Tryz.underlying264
 a51:=Tryz.isAgg264
 z51:=Tryz.sizeOf264
 v51:=Tryz.zeroValue264
 t53:=Tryz.underlying41
 a53:=Tryz.isAgg41
 z53:=Tryz.sizeOf41
 v53:=Tryz.zeroValue41
 t75:=Tryz.underlying243
 a75:=Tryz.isAgg243
 z75:=Tryz.sizeOf243
 v75:=Tryz.zeroValue243
 t85:=Tryz.underlying246
 a85:=Tryz.isAgg246
 z85:=Tryz.sizeOf246
 v85:=Tryz.zeroValue246
 t127:=Tryz.underlying260
 a127:=Tryz.isAgg260
 z127:=Tryz.sizeOf260
 v127:=Tryz.zeroValue260
 t143:=Tryz.underlying299
 a143:=Tryz.isAgg299
 z143:=Tryz.sizeOf299
 v143:=Tryz.zeroValue299
 t145:=Tryz.underlying301
 a145:=Tryz.isAgg301
 z145:=Tryz.sizeOf301
 v145:=Tryz.zeroValue301
 t167:=Tryz.underlying272
 a167:=Tryz.isAgg272
 z167:=Tryz.sizeOf272
 v167:=Tryz.zeroValue272
 t168:=Tryz.underlying274
 a168:=Tryz.isAgg274
 z168:=Tryz.sizeOf274
 v168:=Tryz.zeroValue274
 t171:=Tryz.underlying305
 a171:=Tryz.isAgg305
 z171:=Tryz.sizeOf305
 v171:=Tryz.zeroValue305
 t173:=Tryz.underlying308
 a173:=Tryz.isAgg308
 z173:=Tryz.sizeOf308
 v173:=Tryz.zeroValue308
 t175:=Tryz.underlying244
 a175:=Tryz.isAgg244
 z175:=Tryz.sizeOf244
 v175:=Tryz.zeroValue244
 t210:=Tryz.underlying286
 a210:=Tryz.isAgg286
 z210:=Tryz.sizeOf286
 v210:=Tryz.zeroValue286
 t212:=Tryz.underlying311
 a212:=Tryz.isAgg311
 z212:=Tryz.sizeOf311
 v212:=Tryz.zeroValue311
 t213:=Tryz.underlying312
 a213:=Tryz.isAgg312
 z213:=Tryz.sizeOf312
 t232:=Tryz.underlying315
 a232:=Tryz.isAgg315
 z232:=Tryz.sizeOf315
 v232:=Tryz.zeroValue315
 t233:=Tryz.underlying316
 a233:=Tryz.isAgg316
 z233:=Tryz.sizeOf316
 v233:=Tryz.zeroValue316
 g15:=by kernel_rfl
 g16:=by kernel_rfl
 g17:=by kernel_rfl
 g18:=by kernel_rfl
 g19:=by kernel_rfl
 t80:=Tryz.underlying44
 a80:=Tryz.isAgg44
 z80:=Tryz.sizeOf44
 v80:=Tryz.zeroValue44
 i0:=by kernel_rfl
 i2:=by kernel_rfl
 i3:=by kernel_rfl
 i4:=by kernel_rfl
 i5:=by kernel_rfl
 i9:=by kernel_rfl
 i20:=by kernel_rfl
 i21:=by kernel_rfl
 i37:=by kernel_rfl
 i46:=by kernel_rfl
 i51:=by kernel_rfl
 i53:=by kernel_rfl
 i75:=by kernel_rfl
 i80:=by kernel_rfl
 i85:=by kernel_rfl
 i127:=by kernel_rfl
 i143:=by kernel_rfl
 i145:=by kernel_rfl
 i167:=by kernel_rfl
 i168:=by kernel_rfl
 i171:=by kernel_rfl
 i173:=by kernel_rfl
 i175:=by kernel_rfl
 i210:=by kernel_rfl
 i212:=by kernel_rfl
 i232:=by kernel_rfl
 i233:=by kernel_rfl
 m15:=by kernel_rfl
 m16:=by kernel_rfl
 m17:=by kernel_rfl
 m18:=by kernel_rfl
 m19:=by kernel_rfl
 c0:=by kernel_rfl
 c2:=by kernel_rfl
 c3:=by kernel_rfl
 c4:=by kernel_rfl
 c5:=by kernel_rfl
 c9:=by kernel_rfl
 c20:=by kernel_rfl
 c21:=by kernel_rfl
 c37:=by kernel_rfl
 c46:=by kernel_rfl
 c51:=by kernel_rfl
 c53:=by kernel_rfl
 c75:=by kernel_rfl
 c80:=by kernel_rfl
 c85:=by kernel_rfl
 c127:=by kernel_rfl
 c143:=by kernel_rfl
 c145:=by kernel_rfl
 c167:=by kernel_rfl
 c168:=by kernel_rfl
 c171:=by kernel_rfl
 c173:=by kernel_rfl
 c175:=by kernel_rfl
 c210:=by kernel_rfl
 c212:=by kernel_rfl
 c213:=by kernel_rfl
 c232:=by kernel_rfl
 c233:=by kernel_rfl}
open Go.RowKit in
theorem Tryz.strconv_ParseInt_10_at64_ok(s:ByteArray)(a:s.size<=9223372036854775806)(v:Int)(h:Lib.parseIntB 64 s.data.toList= .ok v)(w:V):
  A2 O 207 #[T s,U X 10,U X 64] w fun e w'=>e= Y (Ce #[U X v,C7])/\(w'=w\/∃t,w'=Lib.bytesWorld w 5 t):=Any.strconv_ParseInt_10_at64_ok Tryz.laysC174 s a v h w
open Go.RowKit in
theorem Tryz.strconv_ParseInt_10_at64_syntax(s:ByteArray)(c:s.size<=281474976710656)(h:Lib.parseIntB 64 s.data.toList= .«syntax»)(a:Ax)(w:V)(d:w.cell? ⟨6,0,S⟩=M a)(b:a= C7\/∃g f,a= E1 g f):
  A2 O 207 #[T s,U X 10,U X 64] w fun e w'=>∃N,e= Y (Ce #[U X (0),E1 274 (B3 (M ⟨N,0,S⟩))])/\w.heap.size<=N/\w'.heap[N]?=M (B1 #[T ⟨#[80,97,114,115,101,73,110,116]⟩,T s,a] 286 (0,0))/\A5 w.heap.size w w':=Any.strconv_ParseInt_10_at64_syntax Tryz.laysC174 s c h a w d b
open Go.RowKit in
theorem Tryz.strconv_ParseInt_10_at64_range(s:ByteArray)(c:s.size<=281474976710656)(h:Lib.parseIntB 64 s.data.toList= .range)(a:Ax)(w:V)(d:w.cell? ⟨7,0,S⟩=M a)(b:a= C7\/∃g f,a= E1 g f):
  A2 O 207 #[T s,U X 10,U X 64] w fun e w'=>∃N,e= Y (Ce #[U X (Lib.intSat 64 s.data.toList),E1 274 (B3 (M ⟨N,0,S⟩))])/\w.heap.size<=N/\w'.heap[N]?=M (B1 #[T ⟨#[80,97,114,115,101,73,110,116]⟩,T s,a] 286 (0,0))/\A5 w.heap.size w w':=Any.strconv_ParseInt_10_at64_range Tryz.laysC174 s c h a w d b
def Tryz.lays99_ren:Br:=⟨fun|99=>80|206=>122|n=>n,fun|9=>9|4=>4|3=>3|n=>n,fun|n=>n⟩
theorem Tryz.lays99:Go.Proofs.Lays.n99 O Tryz.lays99_ren:={
 mixed:=by kernel_rfl
 f99:=Tryz.func80.trans (congrArg M (by kernel_rfl))
 f206:=Tryz.func122.trans (congrArg M (by kernel_rfl))
 t3:=Tryz.underlying3
 a3:=Ck
 z3:=B0
 v3:=Tryz.zeroValue3
 t4:=Tryz.underlying4
 a4:=Tryz.isAgg4
 z4:=Tryz.sizeOf4
 v4:=Tryz.zeroValue4
 t9:=Tryz.underlying9
 a9:=Tryz.isAgg9
 z9:=Tryz.sizeOf9
 v9:=Tryz.zeroValue9}
open Go.RowKit Go.Lib in
theorem Tryz.strings_HasPrefix(s p:ByteArray)(w:V):
  A2 O 80 #[T s,T p] w fun e w'=>e= Y (B7 (Lib.hasPrefix s.data.toList p.data.toList))/\w'=w:=Any.strings_HasPrefix Tryz.lays99 s p w
def Tryz.lays157_ren:Br:=⟨fun|157=>219|229=>236|199=>237|261=>250|311=>255|312=>256|n=>n,fun|9=>9|31=>86|3=>3|5=>5|4=>4|119=>269|0=>0|40=>271|152=>280|21=>21|154=>282|51=>264|141=>284|196=>291|193=>288|198=>294|49=>292|194=>289|201=>297|226=>302|46=>138|227=>303|n=>n,fun|0=>4|6=>5|n=>n⟩
theorem Tryz.lays157:Go.Proofs.Lays.n157 O Tryz.lays157_ren:={
 mixed:=by kernel_rfl
 f157:=Tryz.func219.trans (congrArg M (by kernel_rfl))
 f199:=Tryz.func237.trans (congrArg M (by kernel_rfl))
 f229:=Tryz.func236.trans (congrArg M (by kernel_rfl))
 f261:=Tryz.func250.trans (congrArg M (by kernel_rfl))
 f311:=Tryz.func255.trans (congrArg M (by kernel_rfl))
 f312:=Tryz.func256.trans (congrArg M (by kernel_rfl))
 t0:=Tryz.underlying0
 a0:=Tryz.isAgg0
 z0:=Tryz.sizeOf0
 v0:=Tryz.zeroValue0
 t3:=Tryz.underlying3
 a3:=Ck
 z3:=B0
 v3:=Tryz.zeroValue3
 t4:=Tryz.underlying4
 a4:=Tryz.isAgg4
 z4:=Tryz.sizeOf4
 v4:=Tryz.zeroValue4
 t5:=Tryz.underlying5
 a5:=Tryz.isAgg5
 z5:=Tryz.sizeOf5
 v5:=Tryz.zeroValue5
 t9:=Tryz.underlying9
 a9:=Tryz.isAgg9
 z9:=Tryz.sizeOf9
 v9:=Tryz.zeroValue9
 t21:=Tryz.underlying21
 a21:=Tryz.isAgg21
 z21:=Tryz.sizeOf21
 v21:=Tryz.zeroValue21
 t31:=Tryz.underlying86
 a31:=Tryz.isAgg86
 z31:=Tryz.sizeOf86
 v31:=Tryz.zeroValue86
 t40:=Tryz.underlying271
 a40:=Tryz.isAgg271
 z40:=Tryz.sizeOf271
 v40:=Tryz.zeroValue271
 t46:=Tryz.underlying138
 a46:=Tryz.isAgg138
 z46:=Tryz.sizeOf138
 v46:=Tryz.zeroValue138
 t49:=Tryz.underlying292
 a49:=Tryz.isAgg292
 z49:=Tryz.sizeOf292
 v49:=Tryz.zeroValue292
 t51:=Tryz.underlying264
 a51:=Tryz.isAgg264
 z51:=Tryz.sizeOf264
 v51:=Tryz.zeroValue264
 t119:=Tryz.underlying269
 a119:=Tryz.isAgg269
 z119:=Tryz.sizeOf269
 t141:=Tryz.underlying284
 a141:=Tryz.isAgg284
 z141:=Tryz.sizeOf284
 v141:=Tryz.zeroValue284
 t152:=Tryz.underlying280
 a152:=Tryz.isAgg280
 z152:=Tryz.sizeOf280
 v152:=Tryz.zeroValue280
 t154:=Tryz.underlying282
 a154:=Tryz.isAgg282
 z154:=Tryz.sizeOf282
 v154:=Tryz.zeroValue282
 t193:=Tryz.underlying288
 a193:=Tryz.isAgg288
 z193:=Tryz.sizeOf288
 v193:=Tryz.zeroValue288
 t194:=Tryz.underlying289
 a194:=Tryz.isAgg289
 z194:=Tryz.sizeOf289
 v194:=Tryz.zeroValue289
 t196:=Tryz.underlying291
 a196:=Tryz.isAgg291
 z196:=Tryz.sizeOf291
 v196:=Tryz.zeroValue291
 t198:=Tryz.underlying294
 a198:=Tryz.isAgg294
 z198:=Tryz.sizeOf294
 v198:=Tryz.zeroValue294
 t201:=Tryz.underlying297
 a201:=Tryz.isAgg297
 z201:=Tryz.sizeOf297
 v201:=Tryz.zeroValue297
 t226:=Tryz.underlying302
 a226:=Tryz.isAgg302
 z226:=Tryz.sizeOf302
 v226:=Tryz.zeroValue302
 t227:=Tryz.underlying303
 a227:=Tryz.isAgg303
 z227:=Tryz.sizeOf303
 v227:=Tryz.zeroValue303
 g0:=by kernel_rfl
 g6:=by kernel_rfl}
open Go.RowKit Go.Lib in
theorem Tryz.strings_Fields(s:ByteArray)(w:V)(c:s.size<4294967281)(a:∀(j:Nat) b,s.data.toList[j]?=M b->b.toNat<128)(d:Lib.TabIs O w "strings.asciiSpace" Cr Lib.asciiSpaceTab):
  A2 O 219 #[T s] w fun e w'=>
   e= Y (A0 (M ⟨w.heap.size,0,S⟩) (Lib.fields s.data.toList).length (Lib.fields s.data.toList).length)/\w'=w.alloc (B1 ((Lib.fields s.data.toList).map fun l=>C8 ⟨l.toArray⟩).toArray 9):=Any.strings_Fields Tryz.lays157 (by kernel_rfl) (by kernel_rfl) s w c a d
end Go.Proofs
namespace Go.Proofs.YtnlhhmlcjbohbaaGreatDoor
open Go.RowKit
variable{B b base c cap e g i n t:Nat}{Q:Exit->Act->World->Prop}{R:Bool×Nat×List Int}{W W' w w' y z:World}{a:Addr}{f fr l p r:Int}{k:Bool}{m v vk vn:Value}{o:Oper}{ops:Array Oper}{s:ByteArray}{xs:List Value}
structure Nd where
 k:Int
 f:Int
 t:Int
 l:Int
 op:Int
 n:Int
 x:ByteArray
 nm:List ByteArray
 ks:List Int
def dA(W:V)(v:Ax)(l:List ByteArray):Prop:=
 (l=[]/\∃a c,v= A0 a 0 c)\/∃a c,v= A0 (M a) l.length c/\∀b s,l[b]?=M s->W.cell? (a.add b)=M (T s)
def dm(W:V)(v:Ax)(l:List Int):Prop:=
 (l=[]/\∃a c,v= A0 a 0 c)\/∃a c,v= A0 (M a) l.length c/\∀b z,l[b]?=M z->W.cell? (a.add b)=M (U X z)
structure aai (W:V) (a:Addr) (N:Nd) (vn vk:Ax):Prop where
 c0:W.cell? a=M (.int .i64 N.k)
 c1:W.cell? ⟨a.block,a.off+1,S⟩=M (.int .i64 N.f)
 c2:W.cell? ⟨a.block,a.off+2,S⟩=M (.int .i64 N.t)
 c3:W.cell? ⟨a.block,a.off+3,S⟩=M (.int .i64 N.l)
 c4:W.cell? ⟨a.block,a.off+4,S⟩=M (.int .i64 N.op)
 c5:W.cell? ⟨a.block,a.off+5,S⟩=M (.int .i64 N.n)
 c6:W.cell? ⟨a.block,a.off+6,S⟩=M (.string N.x)
 c7:W.cell? ⟨a.block,a.off+7,S⟩=M vn
 c8:W.cell? ⟨a.block,a.off+8,S⟩=M vk
 hn:dA W vn N.nm
 hk:dm W vk N.ks
def gw(W:V)(v:Ax)(ns:List Nd):Prop:=
 (ns=[]/\∃a c,v= A0 a 0 c)\/∃a c,v= A0 (M a) ns.length c/\∀i b,ns[i]?=M b->∃vn vk,aai W (a.add (i*9)) b vn vk
theorem Cj(h:W.cell? a=M v):a.block<W.heap.size:=by
 unfold World.cell? at h;rcases aH a.block W.heap.size with g|g
 ·exact g
 ·rw[yi g]at h;simp at h
theorem aj(b:A5 W.heap.size W W')(h:W.cell? a=M v):W'.cell? a=M v:=by
 rw[<-h];unfold World.cell?;rw[b.block _ (Cj h)]
theorem dA.below{l:List ByteArray}(h:dA W v l)(e:A5 W.heap.size W W'):dA W' v l:=by
 rcases h with h|⟨a,b,c,d⟩
 ·exact .inl h
 ·exact .inr ⟨a,b,c,fun g i f=>aj e (d g i f)⟩
theorem dm.below{l:List Int}(h:dm W v l)(e:A5 W.heap.size W W'):dm W' v l:=by
 rcases h with h|⟨a,b,c,d⟩
 ·exact .inl h
 ·exact .inr ⟨a,b,c,fun g i f=>aj e (d g i f)⟩
theorem aai.below{N:Nd}(h:aai W a N vn vk)(b:A5 W.heap.size W W'):aai W' a N vn vk:=
 ⟨aj b h.c0,aj b h.c1,aj b h.c2,aj b h.c3,aj b h.c4,aj b h.c5,aj b h.c6,aj b h.c7,aj b h.c8,h.hn.below b,h.hk.below b⟩
theorem gw.below{ns:List Nd}(h:gw W v ns)(i:A5 W.heap.size W W'):gw W' v ns:=by
 rcases h with h|⟨b,c,e,f⟩
 ·exact .inl h
 ·exact .inr ⟨b,c,e,fun j a g=>by obtain⟨l,k,d⟩:=f j a g;exact⟨l,k,d.below i⟩⟩
theorem dA.form{l:List ByteArray}(h:dA W v l):∃a c,v= A0 a l.length c:=by
 rcases h with⟨rfl,a,c,h⟩|⟨a,c,b,d⟩
 ·exact⟨a,c,h⟩
 ·exact⟨_,_,b⟩
theorem dm.form{l:List Int}(h:dm W v l):∃a c,v= A0 a l.length c:=by
 rcases h with⟨rfl,a,c,h⟩|⟨a,c,b,d⟩
 ·exact⟨a,c,h⟩
 ·exact⟨_,_,b⟩
theorem gw.form{l:List Nd}(h:gw W v l):∃a c,v= A0 a l.length c:=by
 rcases h with⟨rfl,a,c,h⟩|⟨a,c,b,d⟩
 ·exact⟨a,c,h⟩
 ·exact⟨_,_,b⟩
theorem dA.get{a:Option Addr}{l:List ByteArray}(h:dA W (A0 a n c) l){k:Nat}(d:l[k]?=M s):∃b,a=M b/\W.cell? (b.add k)=M (T s):=by
 rcases h with⟨rfl,_⟩|⟨b,g,e,f⟩
 ·simp at d
 ·cases e;exact⟨b,rfl,f k s d⟩
theorem dm.get{a:Option Addr}{l:List Int}(h:dm W (A0 a n c) l){k:Nat}{s:Int}(d:l[k]?=M s):∃b,a=M b/\W.cell? (b.add k)=M (U X s):=by
 rcases h with⟨rfl,_⟩|⟨b,g,e,f⟩
 ·simp at d
 ·cases e;exact⟨b,rfl,f k s d⟩
theorem gw.get{a:Option Addr}{l:List Nd}(h:gw W (A0 a n c) l){k:Nat}{N:Nd}(d:l[k]?=M N):∃b,a=M b/\∃vn vk,aai W (b.add (k*9)) N vn vk:=by
 rcases h with⟨rfl,_⟩|⟨b,g,e,f⟩
 ·simp at d
 ·cases e;exact⟨b,rfl,f k N d⟩
theorem bJ{size:Nat}(h:w.ownsRow base e size v n xs)(a:A5 w.heap.size w w'):w'.ownsRow base e size v n xs:=
 h.kept (row:=S) ⟨a.os,a.tape,a.output,a.size,fun c b _=>a.block c b⟩ (by cases v.ownBlock<;>simp)
theorem mL{b size:Nat}(h:w.ownsRow base e size v n xs)(i:b<=base):w.ownsRow b e size v n xs:=by
 obtain⟨g,a⟩:=h;refine⟨g,?_⟩;rcases a with a|⟨f,c,d,k,j,l⟩
 ·exact .inl a
 ·exact .inr ⟨f,c,d,k,bg i j,l⟩
theorem co{α:Type}{l:List α}{k:Nat}(a:l.length=n)(h:k<n):∃s,l[k]?=M s:=⟨l[k]'(by omega),aE _⟩
theorem gI{t:C5}{fr:Nat×Nat}{a c d e f g:Ax}(h:W.heap[b]?=M (B1 #[a,c,d,e,f,g] t fr)):W.cell? ⟨b,0,S⟩=M a/\W.cell? ⟨b,1,S⟩=M c/\W.cell? ⟨b,2,S⟩=M d/\W.cell? ⟨b,3,S⟩=M e/\W.cell? ⟨b,4,S⟩=M f/\W.cell? ⟨b,5,S⟩=M g:=by
 refine⟨?_,?_,?_,?_,?_,?_⟩<;>(rw[au _ _ _ _ _ _ h];rfl)
theorem sf{t:C5}{cs:Array Ax}(h:W.heap[b]?=M (B1 cs t (0,0))):W.frozen? ⟨b,0,S⟩=Z/\W.frozen? ⟨b,1,S⟩=Z/\W.frozen? ⟨b,2,S⟩=Z/\W.frozen? ⟨b,3,S⟩=Z/\W.frozen? ⟨b,4,S⟩=Z/\W.frozen? ⟨b,5,S⟩=Z:=
 ⟨bI _ _ _ _ _ h,bI _ _ _ _ _ h,bI _ _ _ _ _ h,bI _ _ _ _ _ h,bI _ _ _ _ _ h,bI _ _ _ _ _ h⟩
def Cl(W:V)(b:Nat)(a c d e f g:Ax):V:=((((((W.setCell ⟨b,0,S⟩ a).setCell ⟨b,1,S⟩ c).setCell ⟨b,2,S⟩ d).setCell ⟨b,3,S⟩ e).setCell ⟨b,4,S⟩ f).setCell ⟨b,5,S⟩ g)
theorem GL{t:C5}{m n o p q r:Ax}(h:W.heap[b]?=M (B1 #[m,n,o,p,q,r] t (0,0)))(c d e f g i:Ax):(Cl W b c d e f g i).heap[b]?=M (B1 #[c,d,e,f,g,i] t (0,0)):=by
 have a:=fun j k {W l}=>aL W b j l t k;simpa [Cl] using a 5 i (a 4 g (a 3 f (a 2 e (a 1 d (a 0 c h)))))
theorem Jn{k:Nat}(h:k≠b)(a c d e f g:Ax):(Cl W b a c d e f g).heap[k]?=W.heap[k]?:=by
 unfold Cl;rw[aC _ _ _ _ h,aC _ _ _ _ h,aC _ _ _ _ h,aC _ _ _ _ h,aC _ _ _ _ h,aC _ _ _ _ h]
theorem sh(w:V):w.drew.heap=w.heap:=rfl
theorem pI{k:Nat}(h:k≠b)(j:Nat)(a c d e f g:Ax):(Cl W b a c d e f g).drew.cell? ⟨k,j,S⟩=W.cell? ⟨k,j,S⟩:=by
 unfold World.cell?;rw[sh,Jn h]
theorem adE{c:V}(h:A5 base c W)(a:base<=b)(d e f g i j:Ax):A5 base c (Cl W b d e f g i j):=by
 unfold Cl;exact(((((h.setCell a _).setCell a _).setCell a _).setCell a _).setCell a _).setCell a _
theorem CG(W:V)(b:Nat)(c d e f g h:Ax):W.grownBy (Cl W b c d e f g h).drew (M b):=by
 have a:=(adE (ah b W) (ae b) c d e f g h).drew;exact⟨a.os,a.tape,a.output,a.size,fun l k j=>by rw[sh,Jn (fun i=>j (by rw[i]))]⟩
theorem tr:(Tryz.prog.info? 3).map (fun i=>(i.zero,i.size,i.bytes))=M (M (U X 0),1,8):=by kernel_rfl
theorem Jo{l:List ByteArray}(h:W.ownsRow base 9 1 (A0 (M ⟨g,0,S⟩) n c) n (l.map C8))(e:l.length=n):dA W (A0 (M ⟨g,0,S⟩) n c) l:=by
 subst e;refine .inr ⟨⟨g,0,S⟩,c,rfl,fun a i b=>?_⟩;have f:a<l.length:=by rcases aH a l.length with h|h;exact h;rw[gE h]at b;cases b
 have d:(⟨g,0,S⟩:Addr).add a=⟨g,a,S⟩:=by unfold Addr.add;split<;>simp_all
 rw[d,h.cellAt a (by omega),bK,b];rfl
theorem Jp{l:List Int}(h:W.ownsRow base 3 1 (A0 (M ⟨g,0,S⟩) n c) n (l.map (Fs X)))(e:l.length=n):dm W (A0 (M ⟨g,0,S⟩) n c) l:=by
 subst e;refine .inr ⟨⟨g,0,S⟩,c,rfl,fun a i b=>?_⟩;have f:a<l.length:=by rcases aH a l.length with h|h;exact h;rw[gE h]at b;cases b
 have d:(⟨g,0,S⟩:Addr).add a=⟨g,a,S⟩:=by unfold Addr.add;split<;>simp_all
 rw[d,h.cellAt a (by omega),bK,b];rfl
def jo(N:Nd)(vn vk:Ax):Ax:= .agg #[U X N.k,U X N.f,U X N.t,U X N.l,U X N.op,U X N.n,T N.x,vn,vk]
def qJ(b:Nat)(W:V)(t:C5)(N:Nd)(vn vk:Ax):Prop:=
 W.heap[b]?=M (B1 #[U X N.k,U X N.f,U X N.t,U X N.l,U X N.op,U X N.n,T N.x,vn,vk] t (0,0))
theorem ci{t:C5}{N:Nd}(h:qJ b W t N vn vk):
  W.cell? ⟨b,0,S⟩=M (U X N.k)/\W.cell? ⟨b,1,S⟩=M (U X N.f)/\W.cell? ⟨b,2,S⟩=M (U X N.t)/\W.cell? ⟨b,3,S⟩=M (U X N.l)/\W.cell? ⟨b,4,S⟩=M (U X N.op)/\W.cell? ⟨b,5,S⟩=M (U X N.n)/\W.cell? ⟨b,6,S⟩=M (T N.x)/\W.cell? ⟨b,7,S⟩=M vn/\W.cell? ⟨b,8,S⟩=M vk/\(∀j,W.frozen? ⟨b,j,S⟩=Z):=by
 unfold qJ at h;exact⟨by rw[au _ _ _ _ _ _ h];rfl,by rw[au _ _ _ _ _ _ h];rfl,by rw[au _ _ _ _ _ _ h];rfl,by rw[au _ _ _ _ _ _ h];rfl,by rw[au _ _ _ _ _ _ h];rfl,by rw[au _ _ _ _ _ _ h];rfl,by rw[au _ _ _ _ _ _ h];rfl,by rw[au _ _ _ _ _ _ h];rfl,by rw[au _ _ _ _ _ _ h];rfl,fun j=>bI _ _ _ _ _ h⟩
def zNd:Nd:=⟨0,0,0,0,0,0,⟨#[]⟩,[],[]⟩
theorem qJ.below{t:C5}{N:Nd}(h:qJ b W t N vn vk)(a:A5 W.heap.size W W'):qJ b W' t N vn vk:=(a.block _ (ai h)).trans h
open Go.Maps Go.WideMaps
theorem kqf{a b:Int}(h:a=b)(c:Int)(e:(b==c)=Z):(a==c)=Z:=by rw[h];exact e
theorem kqt{a b:Int}(h:a=b)(c:Int)(e:(b==c)=B4):(a==c)=B4:=by rw[h];exact e
theorem kqs{a b:Int}(h:a=b):(a==b)=B4:=by rw[h];exact beq_self_eq_true b
