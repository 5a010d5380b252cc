import Derived.Test.YtkdijoogonigpaaGreatDoorRows
import Derived.LaidMore
import Derived.LaidSub
import Derived.OpenShut
import Derived.OpenVars
import Derived.Stop.Joined
import Derived.Test.YtkdijoogonigpaaGreatDoorHUk02
import Derived.Test.YtkdijoogonigpaaGreatDoorHUk05
set_option linter.all false
set_option maxRecDepth 100000
set_option maxHeartbeats 3200000
open Option renaming some->M,none->Q
open Bool renaming false->N,true->O
namespace Go.Proofs.YtkdijoogonigpaaGreatDoor
open Go.ChangeShapes Go.WideShapes Go.ChangeAt Go.WideMaps Go.WideElems Go.RowKit
theorem wL{H:Type}{enc:TypeId×Value->H}{P:Program}{w:World}{base:Nat}{B:Nat->Bool}{u:Bool}{fuel:Nat}{t e:TypeId}{n:Nat}{cs:List Value}{d:List (List UInt8)}{p:List MemPlace}
  (z:P.underlying t=M (.array n e)) (r:P.underlying e=M .string) (m:P.cellsOf e=1) (q:P.cellsOf t=n)
  (k:DataW.trod enc P w base B u fuel t cs=M (.agg (d.map fun b=> .lit (.string b)),p)):cs=d.map fun b=>Value.string ⟨b.toArray⟩:=by
 obtain⟨C,F,rfl,f,x,A,s⟩:=DataW.trod_array z k;simp only[oE,DataW.agg.injEq]at f;have y:d.length=n:=by have:=congrArg List.length f.1;simpa [A] using this
 apply List.ext_getElem (by simp[x,q,y]);intro a l E;have v:a<n:=by omega
 have g:=s a v;rw[m,yI,aF (by omega)]at g;obtain⟨h,i,j,_⟩:=DataW.trod_string r g;have o:cs[a]= .string h:=by
  have:((cs.drop a).take 1)[0]?=M (.string h):=by rw[i];rfl
  simpa [oF,oG,aF l] using this
 have c:(C.map (·.1))[a]?=(d.map fun b=>(DataW.lit (.string b):DataW H))[a]?:=by rw[f.1]
 rw[dj,dj,aF (by omega),aF (by omega)]at c;simp only[uc,io]at c;rw[j]at c;simp only[DataW.lit.injEq,Lit.string.injEq]at c;rw[o,List.getElem_map,<-c]
theorem own:ownKnob Tryz.prog.godebug=Q:=by kernel_rfl
theorem EJ:laidOutB Tryz.prog=O:=by kernel_rfl
end Go.Proofs.YtkdijoogonigpaaGreatDoor
namespace Go.Proofs.YtkdijoogonigpaaGreatDoor
open Go.RowKit
theorem uG(s:ByteArray)(ap:s.size<=4100)(w:World):
  Calls Tryz.prog 34 #[.string s] w fun e t=>e= .returned (.string (co (bG s)))/\Below w.heap.size w t:=by
 go_in;go_wp2_with fail;go_loopw [4,5] (fun A r wr=>∃b g:Nat,b<=s.size/\r= .int .i64 b/\wr.ownsRow w.heap.size 5 1 A g (B8 (qt s b))/\Below w.heap.size w wr) (fun _ r _=>s.size-(intOf r).toNat)
 case atStart=>exact⟨0,1,aG _,rfl,oJ w 34,(aq _ _).alloc (ag _) _⟩
 case round=>
  obtain⟨b,g,u,rfl,h,c⟩:=hrel;have x:=oI h;have z:=zg s b u;have an:g<=20000:=by omega
  clear x z;by_cases y:b<s.size
  ·have i:Hid (qt s (b+1)=qt s b++esc (s[b].toNat:Int)):=np s b y;obtain⟨a,q⟩:∃a:Int,a=(s[b].toNat:Int):=⟨_,rfl⟩;have ak:0<=a:=by omega
   have al:a<256:=by have:=s[b].toNat_lt;omega
   rw[<-q]at i;have am:∀w,(Instr.index 9 (.string s) (.int .i64 (b:Int))).run Tryz.prog w= .ok (.int .u8 a) w:=by
    intro w;rw[q];go_simp
   clear q;by_cases k:a=10
   ·subst k;go_wp2_with (at_builtin;refine fs rfl (.tmp 24) (.tmp 25) rfl w.heap.size _ g (qt s b) rfl h c.size (by omega) [92,110] 2 rfl (by decide) (by decide) _ rfl rfl ?_;intro m j w1 f d);go_roundw
    case rel=>exact⟨b+1,_,by omega,by go_num,by rw[i.out];exact f,c.trans d⟩
    case measure=>simp[intOf];omega
   have I:(a==10)=N:=by simp[k]
   by_cases l:a=9
   ·subst l;go_wp2_with (at_builtin;refine fs rfl (.tmp 30) (.tmp 31) rfl w.heap.size _ g (qt s b) rfl h c.size (by omega) [92,116] 2 rfl (by decide) (by decide) _ rfl rfl ?_;intro m j w1 f d);go_roundw
    case rel=>exact⟨b+1,_,by omega,by go_num,by rw[i.out];exact f,c.trans d⟩
    case measure=>simp[intOf];omega
   have J:(a==9)=N:=by simp[l]
   by_cases n:a=34
   ·subst n;go_wp2_with (at_builtin;refine fs rfl (.tmp 40) (.tmp 42) rfl w.heap.size _ g (qt s b) rfl h c.size (by omega) [92,34] 2 rfl (by decide) (by decide) _ rfl rfl ?_;intro m j w1 f d);go_roundw
    case rel=>exact⟨b+1,_,by omega,by go_num,by rw[i.out];exact f,c.trans d⟩
    case measure=>simp[intOf];omega
   have K:(a==34)=N:=by simp[n]
   by_cases o:a=92
   ·subst o;go_wp2_with (at_builtin;refine fs rfl (.tmp 40) (.tmp 42) rfl w.heap.size _ g (qt s b) rfl h c.size (by omega) [92,92] 2 rfl (by decide) (by decide) _ rfl rfl ?_;intro m j w1 f d);go_roundw
    case rel=>exact⟨b+1,_,by omega,by go_num,by rw[i.out];exact f,c.trans d⟩
    case measure=>simp[intOf];omega
   have L:(a==92)=N:=by simp[o]
   by_cases e5:a<32\/126<a
   ·have p:Hid (esc a=[92,120,gg (a / 16),gg (a%16)]):=by unfold esc Hid;rw[aa k,aa l,aa (by omega),ab e5]
    clear k l n o;have av:=sn (a / 16) (by omega) (by omega);have a0:=sn (a%16) (by omega) (by omega);have af:bits .and .u8 a 15=a%16:=acD a (by omega) (by omega);have B:0<=a / 16:=by omega
    have C:a / 16<16:=by omega
    have E:0<=a%16:=by omega
    have F:a%16<16:=by omega
    rcases e5 with e5|e5;all_goals
     go_wp2_with fail;go_region_held3 (fun t=>True) (trivial) ((refine ug (by rfl) _ _ (by rfl) w.heap.size _ g (qt s b) (by rfl) h c.size (by omega) [92,120,_,_] 4 (by rfl) (by decide) (by decide) _ (by rfl) (by rfl) ?_;intro m j w1 f d))
     all_goals
      go_wp2;go_roundw
      case rel=>exact⟨b+1,_,by omega,by go_num,by rw[i.out,p.out];assumption,c.trans (by assumption)⟩
      case measure=>simp[intOf];omega
   ·have p:Hid (esc a=[a]):=by unfold esc Hid;rw[aa k,aa l,aa (by omega),aa e5]
    have G:¬a<32:=by omega
    have H:¬126<a:=by omega
    clear k l n o e5;go_wp2_with (at_builtin;refine fs rfl (.tmp 17) (.tmp 19) rfl w.heap.size _ g (qt s b) rfl h c.size (by omega) [a] 1 rfl (by decide) (by decide) _ rfl rfl ?_;intro m j w1 f d);go_roundw
    case rel=>exact⟨b+1,_,by omega,by go_num,by rw[i.out,p.out];exact f,c.trans d⟩
    case measure=>simp[intOf];omega
  ·have v:b=s.size:=by omega
   subst v;go_wp2_with (at_builtin;refine fs rfl (.tmp 62) (.tmp 63) rfl w.heap.size _ g (qt s s.size) rfl h c.size (by omega) [34] 1 rfl (by decide) (by decide) _ rfl rfl ?_;intro m j w1 f d;have a5:=ir f);go_ret;exact⟨rfl,c.trans d⟩
theorem xB(s:ByteArray)(b:s.size<=4000)(w:World):
  Calls Tryz.prog 34 #[.string s] w fun e a=>e= .returned (.string (co (bG s)))/\Below w.heap.size w a:=uG s (by omega) w
def iC:Nat->List Int->Int->Nat->Option (List Int×Option Bool×Nat)
 |0,_,_,_=>Q
 |_+1,[],_,n=>M ([],Q,n)
 |f+1,s::r,t,n=>if s<100 then M (r,M (decide (s=t)),n) else if(xE s t).2=O then iC f ((xE s t).1++r) t (n+(xE s t).1.length) else M (r,M N,n)
def eG:List Int->Int->List Int×Bool
 |[],_=>([],N)
 |s::r,t=>if s<100 then(r,decide (s=t)) else if(xE s t).1=[]/\(xE s t).2=O then eG r t else match iC 8 [s] t 0 with|some (a,some b,_)=>(a++r,b)|_=>([],N)
def aar(s t:Int):Bool:=
 (xE s t).1.all (fun b=>decide (b<=133))&&(decide ((xE s t).1.length<=7)&&
 (if(xE s t).1=[]/\(xE s t).2=O then O else match iC 8 [s] t 0 with|some (_,some _,a)=>decide (a<=20)|_=>N))
theorem aas:((List.range 34).all fun s=>(List.range 78).all fun t=>aar ((s:Int)+100) ((t:Int)+1))=O:=by decide+kernel
theorem Ig{s t:Int}(e:100<=s)(f:s<=133)(g:1<=t)(h:t<=78):aar s t=O:=by
 have d:=List.all_eq_true.1 aas (s-100).toNat (by rw[List.mem_range];omega);have a:=List.all_eq_true.1 d (t-1).toNat (by rw[List.mem_range];omega);have b:(((s-100).toNat:Nat):Int)+100=s:=by omega
 have c:(((t-1).toNat:Nat):Int)+1=t:=by omega
 rw[b,c]at a;exact a
theorem Ih{s t:Int}(b:100<=s)(c:s<=133)(e:1<=t)(f:t<=78):(∀x∈(xE s t).1,x<=133)/\(xE s t).1.length<=7:=by
 have a:=Ig b c e f;unfold aar at a;rw[aw,aw]at a;exact⟨fun x d=>aI (List.all_eq_true.1 a.1 x d),aI a.2.1⟩
theorem C9{s t:Int}(f:100<=s)(g:s<=133)(i:1<=t)(j:t<=78)(h:¬((xE s t).1=[]/\(xE s t).2=O)):∃d b n,iC 8 [s] t 0=M (d,M b,n)/\n<=20:=by
 have a:=Ig f g i j;unfold aar at a;rw[aw,aw,aa h]at a;have c:=a.2.2;split at c
 ·rename_i d b n e;exact⟨d,b,n,e,aI c⟩
 ·cases c
theorem xC{s t:Int}{r:List Int}(b:100<=s)(a:(xE s t).1=[]/\(xE s t).2=O):eG (s::r) t=eG r t:=by
 rw[eG,aa (by omega),ab a]
theorem so{s t:Int}{r a:List Int}{b:Bool}{n:Nat}(e:100<=s)(c:¬((xE s t).1=[]/\(xE s t).2=O))(d:iC 8 [s] t 0=M (a,M b,n)):eG (s::r) t=(a++r,b):=by
 rw[eG,aa (by omega),aa c,d]
theorem xD{s t:Int}{r:List Int}(a:s<100):eG (s::r) t=(r,decide (s=t)):=by
 rw[eG,ab a]
theorem kG{s t:Int}{r d:List Int}{b:Option Bool}{e n m:Nat}(a:iC (e+1) (s::r) t n=M (d,b,m))(f:100<=s):((xE s t).2=O/\iC e ((xE s t).1++r) t (n+(xE s t).1.length)=M (d,b,m))\/((xE s t).2=N/\d=r/\b=M N/\m=n):=by
 rw[iC,aa (by omega)]at a;split at a
 ·rename_i c;exact .inl ⟨c,a⟩
 ·rename_i c;simp only[io,oE]at a;exact .inr ⟨by simpa using c,a.1.symm,a.2.1.symm,a.2.2.symm⟩
theorem uH{s t:Int}{r c:List Int}{b:Option Bool}{d n m:Nat}(a:iC (d+1) (s::r) t n=M (c,b,m))(e:s<100):c=r/\b=M (decide (s=t))/\m=n:=by
 rw[iC,ab e]at a;simp only[io,oE]at a;exact⟨a.1.symm,a.2.1.symm,a.2.2.symm⟩
def Ho(st:List Int):Prop:=∀a∈st,a<=133
theorem EK:∀{f:Nat}{st:List Int}{t:Int}{n:Nat}{d:List Int}{b:Option Bool}{m:Nat},Ho st->1<=t->t<=78->iC f st t n=M (d,b,m)->Ho d
 |0,_,_,_,_,_,_,_,_,_,a=>by simp[iC]at a
 |f+1,[],t,n,d,b,m,c,_,_,a=>by
  simp only[iC,io,oE]at a;rw[<-a.1];exact c
 |f+1,s::r,t,n,d,b,m,c,i,j,a=>by
  have h:Ho r:=fun e hx=>c e (dJ _ hx);by_cases k:s<100
  ·rw[(uH a k).1];exact h
  ·rcases kG a (by omega) with⟨_,g⟩|⟨_,g,_⟩
   ·refine EK (fun e hx=>?_) i j g;rcases List.mem_append.1 hx with hx|hx
    ·exact(Ih (by omega) (c s (dt ..)) i j).1 e hx
    ·exact h e hx
   ·rw[g];exact h
theorem uI:∀{st:List Int}{t:Int},Ho st->1<=t->t<=78->Ho (eG st t).1
 |[],t,a,_,_=>by rw[eG];exact a
 |s::r,t,a,e,f=>by
  have d:Ho r:=fun b hx=>a b (dJ _ hx);by_cases i:s<100
  ·rw[xD i];exact d
  ·have h:=a s (dt ..);by_cases c:(xE s t).1=[]/\(xE s t).2=O
   ·rw[xC (by omega) c];exact uI d e f
   ·obtain⟨l,k,m,g,_⟩:=C9 (by omega) h e f c;rw[so (by omega) c g];intro b hx;rcases List.mem_append.1 hx with hx|hx
    ·refine EK (st:=[s]) ?_ e f g b hx;intro n j;obtain rfl:=List.mem_singleton.1 j;exact h
    ·exact d b hx
open Go.Maps Go.WideMaps
theorem bu{a b:Int}(d:a=b)(c:Int)(e:(b==c)=N):(a==c)=N:=by rw[d];exact e
theorem gE{a b:Int}(d:a=b)(c:Int)(e:(b==c)=O):(a==c)=O:=by rw[d];exact e
