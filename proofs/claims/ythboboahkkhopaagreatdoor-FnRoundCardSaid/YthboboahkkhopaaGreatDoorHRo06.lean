import Derived.Test.YthboboahkkhopaaGreatDoorHRo02
import Derived.Test.YthboboahkkhopaaGreatDoorHRo04
set_option linter.all false
set_option maxRecDepth 100000
set_option maxHeartbeats 3200000
open Bool renaming true->M,false->V
open Option renaming some->O,none->A5
open Go.World renaming putObj_heap_other->U
open Go renaming World->Z,Program->Ax,Value->A2,KeepsFrom->B4
open List renaming range->A0
open Go.Value renaming int->A9,string->B3
open Go.IntKind renaming i64->Br
open Go.Proofs.Tryz renaming prog->B0
open Go.Ending renaming returned->B1
open Go.Fence renaming wide->B2
namespace Go.Proofs.YthboboahkkhopaaGreatDoor
open Go.RowKit
variable{B i l n:Nat}{C:Nat->Bool}{K:Act->World->Prop}{Q:Exit->Act->World->Prop}{S S2:World->Prop}{W W' w:World}{a:Act}{c:List Nat}{lo r:List Int}{md:Region.Mode}{o oi:Oper}{ops:Array Oper}{s t:Int}
def abe(s:ByteArray)(ad:s.size<=4100)(w:Z):
  Calls B0 187 #[B3 s] w λe w'=>e= B1 (B3 (eD (dA s)))/\Below w.heap.size w w':=by
 go_in;go_wp2;go_loopw [4,5] (λz r wr=>∃b g:Nat,b<=s.size/\r= A9 Br b/\wr.ownsRow w.heap.size 5 1 z g (B8 (qt s b))/\Below w.heap.size w wr) (λ_ r _=>s.size-(intOf r).toNat)
 case atStart=>exact⟨0,1,aH _,rfl,wG w 34,(ah _ _).alloc (af _) _⟩
 case round=>
  obtain⟨b,g,t,rfl,h,c⟩:=hrel;have v:=yE h;have y:=Dm s b t;have L:g<=20000:=by omega
  clear v y;by_cases x:b<s.size
  .have i:Hid (qt s (b+1)=qt s b++esc (s[b].toNat:Int)):=uj s b x;obtain⟨a,q⟩:∃a:Int,a=(s[b].toNat:Int):=⟨_,rfl⟩;have I:0<=a:=by omega
   have J:a<256:=by have:=s[b].toNat_lt;omega
   rw[<-q]at i;have K:∀w,(Instr.index 9 (B3 s) (A9 Br (b:Int))).run B0 w= .ok (A9 .u8 a) w:=by
    intro w;rw[q];go_simp
   clear q;by_cases k:a=10
   .subst k;go_wp2_with (at_builtin;refine ng rfl (.tmp 24) (.tmp 25) rfl w.heap.size _ g (qt s b) rfl h c.size (by omega) [92,110] 2 rfl (by decide) (by decide) _ rfl rfl ?_;intro m j w1 f d);go_roundw
    case rel=>exact⟨b+1,_,by omega,by go_num,by rw[i.out];exact f,c.trans d⟩
    case measure=>simp[intOf];omega
   have C:(a==10)=V:=by simp[k]
   by_cases l:a=9
   .subst l;go_wp2_with (at_builtin;refine ng rfl (.tmp 30) (.tmp 31) rfl w.heap.size _ g (qt s b) rfl h c.size (by omega) [92,116] 2 rfl (by decide) (by decide) _ rfl rfl ?_;intro m j w1 f d);go_roundw
    case rel=>exact⟨b+1,_,by omega,by go_num,by rw[i.out];exact f,c.trans d⟩
    case measure=>simp[intOf];omega
   have E:(a==9)=V:=by simp[l]
   by_cases n:a=34
   .subst n;go_wp2_with (at_builtin;refine ng rfl (.tmp 40) (.tmp 42) rfl w.heap.size _ g (qt s b) rfl h c.size (by omega) [92,34] 2 rfl (by decide) (by decide) _ rfl rfl ?_;intro m j w1 f d);go_roundw
    case rel=>exact⟨b+1,_,by omega,by go_num,by rw[i.out];exact f,c.trans d⟩
    case measure=>simp[intOf];omega
   have F:(a==34)=V:=by simp[n]
   by_cases o:a=92
   .subst o;go_wp2_with (at_builtin;refine ng rfl (.tmp 40) (.tmp 42) rfl w.heap.size _ g (qt s b) rfl h c.size (by omega) [92,92] 2 rfl (by decide) (by decide) _ rfl rfl ?_;intro m j w1 f d);go_roundw
    case rel=>exact⟨b+1,_,by omega,by go_num,by rw[i.out];exact f,c.trans d⟩
    case measure=>simp[intOf];omega
   have G:(a==92)=V:=by simp[o]
   by_cases e5:a<32\/126<a
   .have p:Hid (esc a=[92,120,mq (a / 16),mq (a%16)]):=by unfold esc Hid;rw[aa k,aa l,aa (by omega),ae e5]
    clear k l n o;have ak:=Ak (a / 16) (by omega) (by omega);have al:=Ak (a%16) (by omega) (by omega);have H:=ang a (by omega) (by omega);rcases e5 with e5|e5;all_goals
     go_wp2_with fail;go_region_held3 (λw'=>True) (trivial) ((refine Ig (by rfl) _ _ (by rfl) w.heap.size _ g (qt s b) (by rfl) h c.size (by omega) [92,120,_,_] 4 (by rfl) (by decide) (by decide) _ (by rfl) (by rfl) ?_;intro m j w1 f d))
     all_goals
      go_wp2;go_roundw
      case rel=>exact⟨b+1,_,by omega,by go_num,by rw[i.out,p.out];assumption,c.trans (by assumption)⟩
      case measure=>simp[intOf];omega
   .have p:Hid (esc a=[a]):=by unfold esc Hid;rw[aa k,aa l,aa (by omega),aa e5]
    have A:¬a<32:=by omega
    have B:¬126<a:=by omega
    clear k l n o e5;go_wp2_with (at_builtin;refine ng rfl (.tmp 17) (.tmp 19) rfl w.heap.size _ g (qt s b) rfl h c.size (by omega) [a] 1 rfl (by decide) (by decide) _ rfl rfl ?_;intro m j w1 f d);go_roundw
    case rel=>exact⟨b+1,_,by omega,by go_num,by rw[i.out,p.out];exact f,c.trans d⟩
    case measure=>simp[intOf];omega
  .have u:b=s.size:=by omega
   subst u;go_wp2_with (at_builtin;refine ng rfl (.tmp 62) (.tmp 63) rfl w.heap.size _ g (qt s s.size) rfl h c.size (by omega) [34] 1 rfl (by decide) (by decide) _ rfl rfl ?_;intro m j w1 f d;have an:=qx f);go_ret;exact⟨rfl,c.trans d⟩
def aeB(s:ByteArray)(a:s.size<=4000)(w:Z):
  Calls B0 187 #[B3 s] w λe w'=>e= B1 (B3 (eD (dA s)))/\Below w.heap.size w w':=abe s (by omega) w
def qh(t:Int):Bool:=decide (t=25\/t=50\/t=62\/t=69)
def jx(t:Int):Bool:=decide (t=10\/t=26\/60<t)
def gJ(t:Int):Bool:=decide (t=1\/t=2\/t=3\/t=4\/t=24\/t=29\/t=17\/t=49\/t=18\/t=40\/t=42)||qh t
def amp(t:Int):List Int×Bool:=if t=22 then([t,1,104,103],M) else if t=13 then([t,1,47,119],M) else if t=18 then([t,1,133],M) else if t=20 then([t,119,132,105],M) else if t=31 then([t,119,132],M) else if t=19 then([t,1,106],M) else if t=11 then([t],M) else if t=23 then([t],M) else if t=27 then([t,108],M) else if t=30 then([t,132,12,1,109,132],M) else if t=28 then([t,119],M) else if t=14 then([t,116],M) else if t=42 then([132],M) else if t=1 then([t,110],M) else if t=40 then([t,119,41,112],M) else([],V)
def ac4(t a c:Int):List Int:=if t=48 then [t,1,a] else if t=44 then [t,119,45,a] else if t=40 then [t,123,41,c] else []
def KB(t:Int):List Int×Bool:=if qh t=M then([t,120],M) else if t=1 then([t,122],M) else if t=40 then([t,119,41,122],M) else if t=42 then([t,129,43],M) else if t=18 then([t,133],M) else([t],gJ t)
def ar1(t:Int):List Int×Bool:=if t=5 then([t,100],M) else if(amp t).2=M then((amp t).1++[101],M) else([],M)
def ar2(t:Int):List Int×Bool:=if t=5 then([t,100],M) else([],M)
def ar3(t:Int):List Int×Bool:=([40,126,41,132],decide (t=40))
def apI(t:Int):List Int×Bool:=if t=47 then([t,124],M) else([],M)
def apJ(t:Int):List Int×Bool:=if t=46 then([t,1,104],M) else([],M)
def apK(t:Int):List Int×Bool:=if t=15 then([t,119,132,105],M) else if t=16 then([t,132],M) else([],M)
def ar4(t:Int):List Int×Bool:=if t=47 then([t,119,46,119,107,132],M) else([104,21,119,132],decide (t=46\/t=21))
def ar5(t:Int):List Int×Bool:=if t=46 then([t,119],M) else([],M)
def anp(t:Int):List Int×Bool:=if gJ t=M then([124],M) else([],M)
def ar6(t:Int):List Int×Bool:=if t=46 then([t,1],M) else([],M)
def ar7(t:Int):List Int×Bool:=if t=48 then([t,1,110],M) else if t=44 then([t,119,45,110],M) else if t=40 then([t,123,41,111],M) else if t=46 then([t,113],M) else if t=47 then([t,124],M) else([],V)
def ar8(t:Int):List Int×Bool:=if t=48 then([t,1,110],M) else if t=44 then([t,119,45,110],M) else if t=40 then([t,123,41,111],M) else([],M)
def ar9(t:Int):List Int×Bool:=if t=48 then([t,1,110],M) else if t=44 then([t,119,45,110],M) else if t=40 then([t,123,41,111],M) else([],V)
def asa(t:Int):List Int×Bool:=if t=1 then([t,114],M) else if t=40 then([t,119,41,115],M) else([],V)
def asb(t:Int):List Int×Bool:=if t=48 then([t,1,114],M) else if t=44 then([t,119,45,114],M) else if t=40 then([t,123,41,115],M) else if t=46 then([t,113],M) else if t=47 then([t,124],M) else([],V)
def asd(t:Int):List Int×Bool:=if t=48 then([t,1,114],M) else if t=44 then([t,119,45,114],M) else if t=40 then([t,123,41,115],M) else([],V)
def ase(t:Int):List Int×Bool:=if t=1 then([t,117],M) else if t=40 then([t,119,41,117],M) else([],V)
def asf(t:Int):List Int×Bool:=if t=48 then([t,1,117],M) else if t=44 then([t,119,45,117],M) else if t=40 then([t,123,41,118],M) else([],V)
def asg(t:Int):List Int×Bool:=if t=48 then([t,1,117],M) else if t=44 then([t,119,45,117],M) else if t=40 then([t,123,41,118],M) else([],M)
def apL(t:Int):List Int×Bool:=([120,121],gJ t)
def ap0(t:Int):List Int×Bool:=KB t
def anq(t:Int):List Int×Bool:=if jx t=M then([t,119],M) else([],M)
def ap1(t:Int):List Int×Bool:=(ac4 t 122 122,M)
def ap2(t:Int):List Int×Bool:=if gJ t=M then([124],M) else([],M)
def ap3(t:Int):List Int×Bool:=([119,125],gJ t)
def ap4(t:Int):List Int×Bool:=if t=46 then([t,119,125],M) else([],M)
def ash(t:Int):List Int×Bool:=if t=1 then([t,127],M) else if t=49 then([t],M) else([],M)
def asi(t:Int):List Int×Bool:=if t=46 then([t,128],M) else([],M)
def asj(t:Int):List Int×Bool:=if t=1 then([t,127],M) else if t=49 then([t],M) else([],V)
def ap5(t:Int):List Int×Bool:=if gJ t=M then([131,130],M) else if t=48 then([131,130],M) else if t=44 then([131,130],M) else([],M)
def ask(t:Int):List Int×Bool:=if t=46 then([t,129],M) else([],M)
def ap6(t:Int):List Int×Bool:=if t=48 then([t,1,47,119],M) else if t=44 then([t,119,45,47,119],M) else([119],gJ t)
def asl(t:Int):List Int×Bool:=([42,100,43],decide (t=42))
def asm(t:Int):List Int×Bool:=([40,126,41,132],decide (t=40))
def xE(s t:Int):List Int×Bool:=
 if s=100 then ar1 t else if s=101 then ar2 t else if s=102 then ar3 t else if s=103 then apI t else if s=104 then apJ t else if s=105 then apK t else if s=106 then ar4 t else if s=107 then ar5 t else if s=108 then anp t else if s=109 then ar6 t else if s=110 then ar7 t else if s=111 then ar8 t else if s=112 then ar9 t else if s=113 then asa t else if s=114 then asb t else if s=115 then asd t else if s=116 then ase t else if s=117 then asf t else if s=118 then asg t else if s=119 then apL t else if s=120 then ap0 t else if s=121 then anq t else if s=122 then ap1 t else if s=123 then ap2 t else if s=124 then ap3 t else if s=125 then ap4 t else if s=126 then ash t else if s=127 then asi t else if s=128 then asj t else if s=129 then ap5 t else if s=130 then ask t else if s=131 then ap6 t else if s=132 then asl t else asm t
def jB:Nat->List Int->Int->Nat->Option (List Int×Option Bool×Nat)
 |0,_,_,_=>A5
 |_+1,[],_,n=>O ([],A5,n)
 |f+1,s::r,t,n=>if s<100 then O (r,O (decide (s=t)),n) else if(xE s t).2=M then jB f ((xE s t).1++r) t (n+(xE s t).1.length) else O (r,O V,n)
def dz:List Int->Int->List Int×Bool
 |[],_=>([],V)
 |s::r,t=>if s<100 then(r,decide (s=t)) else if(xE s t).1=[]/\(xE s t).2=M then dz r t else match jB 8 [s] t 0 with|some (lo,some b,_)=>(lo++r,b)|_=>([],V)
def aj6(s t:Int):Bool:=
 (xE s t).1.all (λa=>decide (a<=133))&&(decide ((xE s t).1.length<=7)&&
 (if(xE s t).1=[]/\(xE s t).2=M then M else match jB 8 [s] t 0 with|some (_,some _,n)=>decide (n<=20)|_=>V))
def aj7:((A0 34).all λs=>(A0 78).all λt=>aj6 ((s:Int)+100) ((t:Int)+1))=M:=by decide+kernel
def agr(e:100<=s)(f:s<=133)(g:1<=t)(h:t<=78):aj6 s t=M:=by
 have d:=List.all_eq_true.1 aj7 (s-100).toNat (by rw[nJ];omega);have a:=List.all_eq_true.1 d (t-1).toNat (by rw[nJ];omega);have b:(((s-100).toNat:Nat):Int)+100=s:=by omega
 have c:(((t-1).toNat:Nat):Int)+1=t:=by omega
 rw[b,c]at a;exact a
def amq(b:100<=s)(c:s<=133)(e:1<=t)(f:t<=78):(∀x∈(xE s t).1,x<=133)/\(xE s t).1.length<=7:=by
 have a:=agr b c e f;unfold aj6 at a;rw[ch,ch]at a;exact⟨λx d=>aG (List.all_eq_true.1 a.1 x d),aG a.2.1⟩
def Il(e:100<=s)(f:s<=133)(h:1<=t)(i:t<=78)(g:¬((xE s t).1=[]/\(xE s t).2=M)):∃lo b n,jB 8 [s] t 0=O (lo,O b,n)/\n<=20:=by
 have a:=agr e f h i;unfold aj6 at a;rw[ch,ch,aa g]at a;have c:=a.2.2;split at c
 .rename_i lo b n d;exact⟨lo,b,n,d,aG c⟩
 .cases c
def sH(b:100<=s)(a:(xE s t).1=[]/\(xE s t).2=M):dz (s::r) t=dz r t:=by
 rw[dz,aa (by omega),ae a]
def wL{b:Bool}(d:100<=s)(a:¬((xE s t).1=[]/\(xE s t).2=M))(c:jB 8 [s] t 0=O (lo,O b,n)):dz (s::r) t=(lo++r,b):=by
 rw[dz,aa (by omega),aa a,c]
def nC(a:s<100):dz (s::r) t=(r,decide (s=t)):=by
 rw[dz,ae a]
def xa{b:Option Bool}{f m:Nat}(h:jB (f+1) (s::r) t n=O (lo,b,m))(c:100<=s):((xE s t).2=M/\jB f ((xE s t).1++r) t (n+(xE s t).1.length)=O (lo,b,m))\/((xE s t).2=V/\lo=r/\b=O V/\m=n):=by
 rw[jB,aa (by omega)]at h;split at h
 .rename_i a;exact .inl ⟨a,h⟩
 .rename_i a;simp only[fI,jJ]at h;exact .inr ⟨by simpa using a,h.1.symm,h.2.1.symm,h.2.2.symm⟩
def yI{b:Option Bool}{f m:Nat}(h:jB (f+1) (s::r) t n=O (lo,b,m))(a:s<100):lo=r/\b=O (decide (s=t))/\m=n:=by
 rw[jB,ae a]at h;simp only[fI,jJ]at h;exact⟨h.1.symm,h.2.1.symm,h.2.2.symm⟩
def CL(st:List Int):Prop:=∀a∈st,a<=133
def ac5:∀{f:Nat}{st:List Int}{t:Int}{n:Nat}{lo:List Int}{b:Option Bool}{m:Nat},CL st->1<=t->t<=78->jB f st t n=O (lo,b,m)->CL lo
 |0,_,_,_,_,_,_,_,_,_,h=>by simp[jB]at h
 |f+1,[],t,n,lo,b,m,a,_,_,h=>by
  simp only[jB,fI,jJ]at h;rw[<-h.1];exact a
 |f+1,s::r,t,n,lo,b,m,a,g,i,h=>by
  have e:CL r:=λc hx=>a c (dr _ hx);by_cases j:s<100
  .rw[(yI h j).1];exact e
  .rcases xa h (by omega) with⟨_,d⟩|⟨_,d,_⟩
   .refine ac5 (λc hx=>?_) g i d;rcases List.mem_append.1 hx with hx|hx
    .exact(amq (by omega) (a s (bq ..)) g i).1 c hx
    .exact e c hx
   .rw[d];exact e
def vG:∀{st:List Int}{t:Int},CL st->1<=t->t<=78->CL (dz st t).1
 |[],t,a,_,_=>by rw[dz];exact a
 |s::r,t,a,e,f=>by
  have d:CL r:=λb hx=>a b (dr _ hx);by_cases i:s<100
  .rw[nC i];exact d
  .have h:=a s (bq ..);by_cases c:(xE s t).1=[]/\(xE s t).2=M
   .rw[sH (by omega) c];exact vG d e f
   .obtain⟨l,k,m,g,_⟩:=Il (by omega) h e f c;rw[wL (by omega) c g];intro b hx;rcases List.mem_append.1 hx with hx|hx
    .refine ac5 (st:=[s]) ?_ e f g b hx;intro n j;obtain rfl:=List.mem_singleton.1 j;exact h
    .exact d b hx
def oE(a b:Int):List (List Int):=[[48,1,a],[44,117,45,a],[40,111,41,b]]
def mE(a:Int):List (List Int):=
 if a=100 then [[5,100],[102,101],[]]
 else if a=101 then [[5,100],[]]
 else if a=102 then [[22,1,109,103],[13,1,47,117],[18,1,113],[20,117,108,107],[31,117,108],[19,1,104],[11],[23],[27,111],[30,108,12,1,106,108],[28,117],[14,131],[108],[1,125],[40,117,41,127]]
 else if a=103 then [[47,110],[]]
 else if a=104 then [[47,117,46,117,105,108],[21,117,108],[46,1,109,21,117,108]]
 else if a=105 then [[46,117],[]]
 else if a=106 then [[46,1],[]]
 else if a=107 then [[15,117,108,107],[16,108],[]]
 else if a=108 then [[42,100,43]]
 else if a=109 then [[46,1,109],[]]
 else if a=110 then [[117,112]]
 else if a=111 then [[117,112],[]]
 else if a=112 then [[46,117,112],[]]
 else if a=113 then [[40,114,41,108]]
 else if a=114 then [[115],[]]
 else if a=115 then [[49],[1,116]]
 else if a=116 then [[46,115],[]]
 else if a=117 then [[118,119]]
 else if a=118 then [[25,118],[62,118],[50,118],[69,118],[1,120],[40,117,41,120],[2],[3],[4],[24],[29],[17],[49],[18,113],[121]]
 else if a=119 then []::([26,10,73,74,75,76,77,78,72,68,69,67,70,71,61,62,63,64,65,66].map λb=>[b,118,119])
 else if a=120 then oE 120 120++[[]]
 else if a=121 then [[42,122,43]]
 else if a=122 then [[124,123],[]]
 else if a=123 then [[46,122],[]]
 else if a=124 then [[117],[44,117,45,47,117],[48,1,47,117]]
 else if a=125 then oE 125 126++[[46,128],[47,110]]
 else if a=126 then oE 125 126++[[]]
 else if a=127 then oE 125 126
 else if a=128 then [[1,129],[40,117,41,130]]
 else if a=129 then oE 129 130++[[46,128],[47,110]]
 else if a=130 then oE 129 130
 else if a=131 then [[1,132],[40,117,41,132]]
 else if a=132 then oE 132 133
 else if a=133 then oE 132 133++[[]]
 else []
def Bq:Nat->Int->Int->Bool
 |0,_,_=>V
 |f+1,a,t=>if a<100 then decide (a=t) else(mE a).any λr=>match r with|[]=>V|h::_=>Bq f h t
def hdI(t:Int)(r:List Int):Bool:=match r with|[]=>V|h::_=>Bq 8 h t
def Io(a t:Int):List Int:=((mE a).find? (hdI t)).getD []
def KC(a:Int):Bool:=(mE a).contains []
def uL:List Int->Int->Bool
 |[],_=>V
 |a::r,t=>if Bq 9 a t=M then M else if KC a=M then uL r t else V
def mF:Nat->List Int->Int->Option (List Int)
 |0,_,_=>A5
 |_+1,[],_=>A5
 |f+1,a::r,t=>if a=t then O r else mF f (Io a t++r) t
def phi(a:Int):List Int:=
 if a=104 then [106] else if a=105 then [107] else if a=106 then [109] else if a=107 then [105] else if a=108 then [132] else if a=109 then [104] else if a=110 then [120,121,125] else if a=111 then [123] else if a=112 then [125]
 else if a=113 then [133] else if a=114 then [126] else if a=115 then [128] else if a=116 then [127] else if a=117 then [120,121] else if a=118 then [120] else if a=119 then [121] else if a=120 then [122] else if a=122 then [129] else if a=123 then [130] else if a=124 then [131]
 else if a=125 then [110] else if a=126 then [111] else if a=127 then [112] else if a=128 then [113] else if a=129 then [114] else if a=130 then [115] else if a=131 then [116] else if a=132 then [117] else if a=133 then [118] else [a]
def psi(s:Int):List Int:=if s=119 then [120,121] else if s=124 then [120,121,125] else if s=108 then [123] else [s]
def iD(st:List Int):List Int:=st.flatMap psi
def ve(st:List Int):List Int:=st.flatMap phi
def okI(a:Int):Bool:=decide (1<=a/\a<=133/\a≠102/\a≠121)
def sI(a b:List Int):iD (a++b)=iD a++iD b:=by simp[iD]
def ags(a b:List Int):ve (a++b)=ve a++ve b:=by simp[ve]
def Ao:∀{f g:Nat}{st:List Int}{t:Int}{n:Nat}{X:List Int×Option Bool×Nat},jB f st t n=O X->f<=g->jB g st t n=O X
 |0,_,_,_,_,_,h,_=>by simp[jB]at h
 |f+1,0,_,_,_,_,_,c=>by omega
 |f+1,g+1,[],t,n,X,h,c=>by rw[jB]at h⊢;exact h
 |f+1,g+1,s::r,t,n,X,h,c=>by
  rw[jB]at h⊢;split
  .rename_i a;rw[ae a]at h;exact h
  .rename_i a;rw[aa a]at h;split
   .rename_i b;rw[ae b]at h;exact Ao h (by omega)
   .rename_i b;rw[aa b]at h;exact h
def KD:∀{f:Nat}{a c:List Int}{t:Int}{n:Nat}{lo:List Int}{b:Bool}{m:Nat},jB f a t n=O (lo,O b,m)->jB f (a++c) t n=O (lo++c,O b,m)
 |0,_,_,_,_,_,_,_,h=>by simp[jB]at h
 |f+1,[],_,t,n,lo,b,m,h=>by simp[jB]at h
 |f+1,s::r,c,t,n,lo,b,m,h=>by
  rw[ed];rw[jB]at h⊢;split
  .rename_i d;rw[ae d]at h;simp only[fI,jJ]at h;rw[<-h.1,<-h.2.1,<-h.2.2]
  .rename_i d;rw[aa d]at h;split
   .rename_i e;rw[ae e]at h;rw[<-dj];exact KD h
   .rename_i e;rw[aa e]at h;simp only[fI,jJ]at h;rw[<-h.1,<-h.2.1,<-h.2.2]
def po:∀{f:Nat}{st:List Int}{t:Int}{n:Nat}{lo:List Int}{a:Option Bool}{m:Nat},CL st->1<=t->t<=78->jB f st t n=O (lo,a,m)->∀r,(∀b,a=O b->dz (st++r) t=(lo++r,b))/\(a=A5->dz (st++r) t=dz r t)
 |0,_,_,_,_,_,_,_,_,_,h,_=>by simp[jB]at h
 |f+1,[],t,n,lo,a,m,s,w,x,h,r=>by
  simp only[jB,fI,jJ]at h;obtain⟨rfl,rfl,rfl⟩:=h;exact⟨λb h=>(by cases h),λ_=>rfl⟩
 |f+1,g::k,t,n,lo,a,m,s,w,x,h,r=>by
  have F:=s g (bq ..);have G:CL k:=λJ H=>s J (dr _ H);rw[ed];by_cases z:g<100
  .obtain⟨rfl,rfl,rfl⟩:=yI h z;refine⟨λb q=>?_,λh=>by cases h⟩;rw[nC z,<-bz q]
  .by_cases i:(xE g t).1=[]/\(xE g t).2=M
   .rcases xa h (by omega) with⟨_,d⟩|⟨d,_⟩
    .rw[i.1,dI]at d;have u:=po G w x d r;rw[sH (by omega) i];exact u
    .rw[i.2]at d;cases d
   .obtain⟨I,B,j,y,_⟩:=Il (by omega) F w x i;rw[wL (by omega) i y];have l:∃e,jB 8 (g::k) t n=O (I++k,O B,e):=by
     have A:∀{f:Nat}{st:List Int}{j n2 v:Nat}{lo:List Int}{a:Option Bool},jB f st t j=O (lo,a,v)->∃e,jB f st t n2=O (lo,a,e):=by
      intro f
      induction f with
      |zero=>intro st j n2 v lo a h;simp[jB]at h
      |succ f u=>
       intro st j n2 v lo a h;cases st with
       |nil=>
        simp only[jB,fI,jJ]at h⊢;exact⟨n2,h.1,h.2.1,rfl⟩
       |cons g r=>
        rw[jB]at h⊢;split
        .rename_i p;rw[ae p]at h;simp only[fI,jJ]at h⊢;exact⟨n2,h.1,h.2.1,rfl⟩
        .rename_i p;rw[aa p]at h;split
         .rename_i d;rw[ae d]at h;exact u h
         .rename_i d;rw[aa d]at h;simp only[fI,jJ]at h⊢;exact⟨n2,h.1,h.2.1,rfl⟩
     obtain⟨e,C⟩:=A (n2:=n) y;exact⟨e,by have:=KD (c:=k) C;simpa using this⟩
    obtain⟨e,l⟩:=l;have E:=Ao h (show f+1<=f+9 by omega);have o:=Ao l (show 8<=f+9 by omega);rw[E]at o;simp only[fI,jJ]at o;obtain⟨rfl,rfl,_⟩:=o;refine⟨λb q=>?_,λh=>by cases h⟩;rw[bz q,dj]
def anr(s t:Int):Bool:=match jB 12 [s] t 0,jB 12 (psi s) t 0 with
 |some (lo,some a,_),some (c,some b,_)=>a==b&&(!a||decide (iD lo=iD c))
 |some (_,none,_),some (_,none,_)=>M
 |_,_=>V
def agt:((A0 34).all λs=>(A0 78).all λt=>anr ((s:Int)+100) ((t:Int)+1))=M:=by decide+kernel
def agu(a t:Int):Bool:=
 if Bq 9 a t=M then(match mF 9 [a] t,jB 12 (phi a) t 0 with
  |some lo,some (b,some true,_)=>lo.all okI&&decide (iD b=ve lo)
  |_,_=>V)
 else if KC a=M then(Io a t).isEmpty&&(match jB 12 (phi a) t 0 with|some (_,none,_)=>M|_=>V)
 else(match jB 12 (phi a) t 0 with|some (_,some false,_)=>M|_=>V)
def agv:((A0 133).all λa=>!(okI ((a:Int)+1))||(A0 78).all λt=>agu ((a:Int)+1) ((t:Int)+1))=M:=by decide+kernel
def aj8(e:100<=s)(f:s<=133)(g:1<=t)(h:t<=78):anr s t=M:=by
 have d:=List.all_eq_true.1 agt (s-100).toNat (by rw[nJ];omega);have a:=List.all_eq_true.1 d (t-1).toNat (by rw[nJ];omega);have b:(((s-100).toNat:Nat):Int)+100=s:=by omega
 have c:(((t-1).toNat:Nat):Int)+1=t:=by omega
 rw[b,c]at a;exact a
def ac6{a:Int}(d:okI a=M)(h:1<=t)(i:t<=78):agu a t=M:=by
 have g:=aG d;have b:=List.all_eq_true.1 agv (a-1).toNat (by rw[nJ];omega);have e:(((a-1).toNat:Nat):Int)+1=a:=by omega
 rw[e,d]at b;have c:=List.all_eq_true.1 (by simpa using b:((A0 78).all λt=>agu a ((t:Int)+1))=M) (t-1).toNat (by rw[nJ];omega);have f:(((t-1).toNat:Nat):Int)+1=t:=by omega
 rw[f]at c;exact c
def agw(h:s<=133):CL (psi s):=by
 unfold psi;intro b a;split at a
 .simp at a;omega
 split at a
 .simp at a;omega
 split at a
 .simp at a;omega
 .simp at a;omega
def aeC(s:Int):iD (psi s)=psi s:=by
 unfold psi;split
 .decide
 split
 .decide
 split
 .decide
 .rename_i a b c;simp[iD,psi,a,b,c]
def vH:∀st:List Int,iD (iD st)=iD st
 |[]=>rfl
 |s::r=>by
  show iD (psi s++iD r)=psi s++iD r;rw[sI,aeC,vH r]
def abf(s:Int)(r:List Int):iD (s::r)=psi s++iD r:=rfl
def Gv(s:Int)(r:List Int):ve (s::r)=phi s++ve r:=rfl
def yd:∀{st:List Int}{t:Int},CL st->1<=t->t<=78->(dz (iD st) t).2=(dz st t).2/\((dz st t).2=M->iD (dz (iD st) t).1=iD (dz st t).1)
 |[],t,j,_,_=>⟨rfl,λ_=>rfl⟩
 |s::r,t,j,b,c=>by
  have f:=j s (bq ..);have x:CL r:=λu k=>j u (dr _ k);rw[abf];by_cases p:s<100
  .have v:psi s=[s]:=by unfold psi;rw[aa (by omega),aa (by omega),aa (by omega)]
   rw[v,ue,nC p,nC p];exact⟨rfl,λ_=>vH r⟩
  .have a:=aj8 (by omega) f b c;unfold anr at a;have q:CL [s]:=λu k=>by obtain rfl:=List.mem_singleton.1 k;exact f
   split at a
   .rename_i l n y m o z g h;have d:=(po q b c g r).1 n rfl;have i:=(po (agw f) b c h (iD r)).1 o rfl;rw[ue]at d;rw[d,i];rw[ch]at a;have e:n=o:=by simpa using a.1
    subst e;refine⟨rfl,λe=>?_⟩;simp only at e;subst e;have w:iD l=iD m:=by simpa using a.2
    show iD (m++iD r)=iD (l++r);rw[sI,sI,vH,w]
   .rename_i l y m z g h;have d:=(po q b c g r).2 rfl;have i:=(po (agw f) b c h (iD r)).2 rfl;rw[ue]at d;rw[d,i];exact yd x b c
   .cases a
def OkI(st:List Int):Prop:=∀a∈st,okI a=M
def aj9:((A0 133).all λa=>!(okI ((a:Int)+1))||((phi ((a:Int)+1)).all (λx=>decide (x<=133))&&decide (iD (phi ((a:Int)+1))=phi ((a:Int)+1))))=M:=by decide+kernel
def agx{a:Int}(c:okI a=M):CL (phi a)/\iD (phi a)=phi a:=by
 have g:=aG c;have b:=List.all_eq_true.1 aj9 (a-1).toNat (by rw[nJ];omega);have d:(((a-1).toNat:Nat):Int)+1=a:=by omega
 rw[d,c,Bool.not_true,yD,ch]at b;exact⟨λf e=>aG (List.all_eq_true.1 b.1 f e),aG b.2⟩
def ant{a:Int}(h:okI a=M):CL (phi a):=(agx h).1
def aeD{a:Int}(h:okI a=M):iD (phi a)=phi a:=(agx h).2
def Dy:∀{st:List Int},OkI st->iD (ve st)=ve st
 |[],_=>rfl
 |a::r,h=>by
  rw[Gv,sI,aeD (h a (bq ..)),Dy (λc b=>h c (dr _ b))]
def Ap:∀{f:Nat}{a c lo:List Int}{t:Int},mF f a t=O lo->mF f (a++c) t=O (lo++c)
 |0,_,_,_,_,h=>by simp[mF]at h
 |f+1,[],_,_,_,h=>by simp[mF]at h
 |f+1,a::r,c,lo,t,h=>by
  rw[ed];rw[mF]at h⊢;split
  .rename_i b;rw[ae b]at h;rw[<-bz h]
  .rename_i b;rw[aa b]at h;rw[<-dj];exact Ap h
def Dz:∀{f g:Nat}{st lo:List Int}{t:Int},mF f st t=O lo->f<=g->mF g st t=O lo
 |0,_,_,_,_,h,_=>by simp[mF]at h
 |f+1,0,_,_,_,_,c=>by omega
 |f+1,g+1,[],_,_,h,_=>by simp[mF]at h
 |f+1,g+1,a::r,lo,t,h,c=>by
  rw[mF]at h⊢;split
  .rename_i b;rw[ae b]at h;exact h
  .rename_i b;rw[aa b]at h;exact Dz h (by omega)
def Aq:∀{st:List Int}{t:Int},OkI st->1<=t->t<=78->uL st t=(dz (ve st) t).2/\(uL st t=M->∃f,mF (st.length+9) st t=O f/\OkI f/\iD (dz (ve st) t).1=ve f)
 |[],t,m,_,_=>⟨rfl,λh=>by simp[uL]at h⟩
 |a::r,t,m,g,i=>by
  have p:=m a (bq ..);have o:OkI r:=λk hx=>m k (dr _ hx);have b:=ac6 p g i;have n:=ant p;rw[Gv,uL];unfold agu at b;by_cases l:Bq 9 a t=M
  .rw[ae l]at b⊢;split at b
   .rename_i j C u w d;have e:=(po n g i d (ve r)).1 M rfl;rw[e];rw[ch]at b;have A:=aG b.2;refine⟨rfl,λ_=>⟨j++r,?_,?_,?_⟩⟩
    .exact Dz (Ap (c:=r) w) (by omega)
    .intro k hx;rcases List.mem_append.1 hx with hx|hx
     .exact List.all_eq_true.1 b.1 k hx
     .exact o k hx
    .show iD (C++ve r)=ve (j++r);rw[sI,ags,A]
     congr 1
     exact Dy o
   .cases b
  .rw[aa l]at b⊢;by_cases s:KC a=M
   .rw[ae s]at b⊢;rw[ch]at b;have q:=b.2;split at q
    .rename_i j u d;have e:=(po n g i d (ve r)).2 rfl;rw[e];have⟨x,y⟩:=Aq o g i;refine⟨x,λh=>?_⟩;have⟨f,E,p2,F⟩:=y h;refine⟨f,?_,p2,F⟩;have z:¬a=t:=λv=>by
      subst v;have:Bq 9 a a=M:=by rw[Bq,ae (by omega)];exact aI rfl
      exact l this
     have B:Io a t=[]:=by simpa using b.1
     rw[show(a::r).length+9=(r.length+9)+1 from Nat.add_right_comm r.length 1 9,mF,aa z,B,dI];exact E
    .cases q
   .rw[aa s]at b⊢;split at b
    .rename_i j u d;have e:=(po n g i d (ve r)).1 V rfl;rw[e];exact⟨rfl,λh=>by cases h⟩
    .cases b
structure Sim (st stk:List Int):Prop where
 o1:OkI st
 o2:CL stk
 eq:iD stk=ve st
def Sim.may{st a:List Int}(h:Sim st a)(b:1<=t)(c:t<=78):uL st t=(dz a t).2:=by
 rw[(Aq h.o1 b c).1,<-h.eq];exact(yd h.o2 b c).1
def Sim.pass{st e:List Int}(h:Sim st e)(b:1<=t)(c:t<=78)(d:uL st t=M):∃a,mF (st.length+9) st t=O a/\Sim a (dz e t).1:=by
 have⟨a,f,p2,g⟩:=(Aq h.o1 b c).2 d;refine⟨a,f,p2,vG h.o2 b c,?_⟩;rw[<-g,<-h.eq];exact((yd h.o2 b c).2 (by rw[<-h.may b c];exact d)).symm
def aeE:Sim [100,6] [100,6]:=⟨by unfold OkI;decide,by unfold CL;decide,by decide⟩
def BL:Array A2:=⟨[26,1,2,10,2,3,73,3,4,74,3,4,75,3,4,76,3,4,77,3,4,78,3,4,72,4,4,68,5,6,69,6,7,67,7,8,70,8,9,71,8,9,61,9,10,62,9,10,63,10,11,64,10,11,65,10,11,66,10,11].map (Value.int Br)⟩
def qK:List Int:=[26,10,73,74,75,76,77,78,72,68,69,67,70,71,61,62,63,64,65,66]
def sJ(k:Nat):Int:=match BL.getD k (A9 Br 0) with| .int _ a=>a|_=>0
def anu(k:Nat)(a:k<20)(w:Z):(Instr.index 229 (.agg BL) (A9 Br (k:Int))).run B0 w= .ok (.agg #[A9 Br (qK.getD k 0),A9 Br (sJ (3*k+1)),A9 Br (sJ (3*k+2))]) w:=by
 iterate 20 (obtain _|k:=k;· kernel_rfl)
 omega
def agy(B:Nat)(W:Z)(a X:Z->Prop):Exit->Act->Z->Prop
 | .normal,_,W'=>B4 B W W'/\a W'
 | .ret,_,W'=>B4 B W W'/\X W'
 |_,_,_=>False
def xb{P:Ax}{g:Operand}{ps:Array Tmp}{assign body:Go.Code}{gf:Nat}{lb:Array A2}
  (a7:a.eval g= .func (.func gf) #[] lb) (ap:∀args w,(callFunc gf args).run P w= .ok (.enter gf args) w) (enc:Nat->Array A2) (ba:∀x,(enc x).size=ps.size) (u:Nat)
  (f:Nat->Z->Prop) (y:Nat->Act->Z->Prop) (X:Z->Prop)
  (ao:∀m W r o,f m W->W.heap[w.heap.size+1]?=O (.loop r)->f m (W.putObj (w.heap.size+1) o))
  (bf:∀m c W r o,y m c W->W.heap[w.heap.size+1]?=O (.loop r)->y m c (W.putObj (w.heap.size+1) o)) (an:∀W r o,X W->W.heap[w.heap.size+1]?=O (.loop r)->X (W.putObj (w.heap.size+1) o))
  (ar:∀b,be w b->b.heap.size=w.heap.size+2->f u b)
  (ax:∀(l m:Nat) W (K:Act->Z->Prop),m<u->f (m+1) W->(∀c W',y m c W'->B4 w.heap.size W W'->K c W')->
   assign.wpIn (Fence.wide.inRound l) (n-1-1) P (Exit.then K (λ_ _ _=>False)) {tmps:=(ps.zip (enc m)).foldl (λt (p,v)=>t.setIfInBounds p v) a.tmps,defers:=[]} W)
  (a1:∀(l m:Nat) c W,m<u->y m c W->body.wpIn (Fence.wide.inRound l) (n-1-1) P (agy w.heap.size W (f m) X) c W)
  (bd:∀(l:Nat)(j:Nat->Z->Prop)(I:Z->Prop),(∀m W,j m W->f m W)->
   (∀m W,m<u->j (m+1) W->YieldAt B2 (n-1-1) P l (enc m) W λe W'=>(e= B1 (.bool M)/\j m W')\/(e= B1 (.bool V)/\I W'))->
   ∀W,j u W->CallsIn B2 (n-1) P gf (#[.func (.yield l) #[] #[]]++lb) W λe W'=>(∃v,e= B1 v)/\(j 0 W'\/I W'))
  (a5:∀W,f 0 W->W.heap[w.heap.size]?=O (.deferred (O []))->Q .normal {a with defers:={target:= .collected w.heap.size,args:=#[]}::a.defers} W)
  (bb:∀W,X W->W.heap[w.heap.size]?=O (.deferred (O []))->Q .ret {a with defers:={target:= .collected w.heap.size,args:=#[]}::a.defers} W):
  (Go.Code.rangeFunc g ps assign body).wpIn B2 n P Q a w:=by
 refine wpIn_rangeFunc ?_;intro fn a6;show ∃l bt bv bo bw bp args bx,(Instr.enterLoop fn a.tmps ps assign body A5).run P w=_/\_;obtain⟨rc,d⟩:∃rc:LoopState->Option Go.Code->Loop,rc=λbj bh=>{state:=bj,pending:=bh,fn,tmps:=a.tmps,params:=ps,assign,body,defers:=w.heap.size}:=⟨_,rfl⟩;have C:=run_enterLoop_outer (P:=P) (w:=w) fn a.tmps ps assign body;rw[show({state:= .ready,pending:=A5,fn,tmps:=a.tmps,params:=ps,assign,body,defers:=w.heap.size}:Loop)=rc .ready A5 by rw[d]]at C;have⟨b,k⟩:=aJ ((w.alloc (.deferred (O []))).alloc (.loop (rc .ready A5)));rw[k]at C;have a8:b.heap[w.heap.size+1]?=O (.loop (rc .ready A5)):=by
  rw[<-k];have:=World.alloc_heap_new (w.alloc (.deferred (O []))) (.loop (rc .ready A5));rwa [dm]at this
 have a2:b.heap[w.heap.size]?=O (.deferred (O [])):=by
  rw[<-k];exact(fp _ _ _ (by simp)).trans (World.alloc_heap_new w _)
 have a0:be w b:=by rw[<-k];exact((ah _ w).alloc (af _) _).alloc (by simp) _
 have bc:b.heap.size=w.heap.size+2:=by rw[<-k];simp
 refine⟨w.heap.size+1,[{target:= .collected w.heap.size,args:=#[]}],b,{target:= .fn (.func gf) lb,args:=#[.func (.yield (w.heap.size+1)) #[] #[]]},b,gf,
  #[.func (.yield (w.heap.size+1)) #[] #[]]++lb,b,C,?_,?_,?_,λz=>by simp[B2]at z,?_⟩
 .simp only[resolve,a7];simp[go_sem]
 .intro br bs;trivial
 .simp[invoke,go_sem,ap]
 .refine(bd (w.heap.size+1) (λm W=>f m W/\W.heap[w.heap.size+1]?=O (.loop (rc .ready A5))/\W.heap[w.heap.size]?=O (.deferred (O [])))
   (λW=>X W/\W.heap[w.heap.size+1]?=O (.loop (rc .done (O .ret)))/\W.heap[w.heap.size]?=O (.deferred (O []))) (λ_ _ z=>z.1) ?_ b ⟨ar b a0 bc,a8,a2⟩).mono ?_
  .rintro m W ak ⟨A,h,q⟩;have al:=run_yield (P:=P) (args:=enc m) h (by rw[d];exact ba m);rw[d]at al;refine⟨fn,_,assign,body,al,roundIn_of_wpIn a6 (ax _ m W _ ak A λc W' au L=>?_)⟩;have E:=L.same _ _ (by omega) h rfl;have a4:=L.same _ _ (af _) q rfl;have a9:w.heap.size+1<W'.heap.size:=(Array.getElem?_eq_some_iff.1 E).1;refine⟨_,run_beginRound E (by rw[d]),?_⟩;have ad:(W'.putObj (w.heap.size+1) (.loop {rc .ready A5 with state:= .busy})).heap[w.heap.size+1]?=O (.loop {rc .ready A5 with state:= .busy}):=World.putObj_heap_same a9;have J:(W'.putObj (w.heap.size+1) (.loop {rc .ready A5 with state:= .busy})).heap[w.heap.size]?=O (.deferred (O [])):=(U (by omega)).trans a4;refine wpIn_mono (a1 _ m c _ ak (bf _ _ _ _ _ au E)) ?_;rintro e bn bl G;cases e with
   |normal=>
    obtain⟨s,H⟩:=G;have i:=s.same _ _ (by omega) ad rfl;have B:=s.same _ _ (af _) J rfl;have F:=(Array.getElem?_eq_some_iff.1 i).1;refine⟨_,_,run_endRound (P:=P) A5 i,.inl ⟨rfl,ao _ _ _ _ H i,?_,(U (by omega)).trans B⟩⟩;rw[World.putObj_heap_same F];simp[d]
   |ret=>
    obtain⟨s,H⟩:=G;have i:=s.same _ _ (by omega) ad rfl;have B:=s.same _ _ (af _) J rfl;have F:=(Array.getElem?_eq_some_iff.1 i).1;refine⟨_,_,run_endRound (P:=P) (O .ret) i,.inr ⟨rfl,an _ _ _ H i,?_,(U (by omega)).trans B⟩⟩;rw[World.putObj_heap_same F];simp[d]
   |_=>exact G.elim
  .rintro e bk ⟨⟨v,rfl⟩,⟨A,h,q⟩|⟨av,h,q⟩⟩
   .refine⟨A5,_,by have:=run_endLoop (P:=P) h (by rw[d];simp);rw[d]at this;exact this,?_⟩;exact a5 _ (ao _ _ _ _ A h) ((U (by omega)).trans q)
   .refine⟨O .ret,_,by have:=run_endLoop (P:=P) h (by rw[d];simp);rw[d]at this;exact this,?_⟩;exact wpIn_ret (bb _ (an _ _ _ av h) ((U (by omega)).trans q))
def abg{P:Ax}(r:Result Next)(h:o.upon P a K Q r):o.uponIn (Fence.wide.inRound l) n P a K Q r:=by
 have d:(Fence.wide.inRound l).depth.isSome=M->1<=n:=λh=>by simp[B2,Fence.inRound]at h
 cases r with
 |ok c i=>
  cases c with
  |value b=>exact h
  |skip=>exact h
  |defer k=>exact h
  |enter m args=>exact⟨d,CallsIn.inRound l (callsIn_wide.2 h)⟩
  |row row args=>exact⟨d,λe f _=>let ⟨b,j,r,g⟩:=h e f;⟨b,j,r,stepsIn_wide.2 g⟩⟩
  |_=>exact h.elim
 |halt c i=>
  cases c with
  |panic b=>exact h
  |_=>exact h.elim
def KF(o:Oper):Bool:=match o.op with| .defer _=>V|_=>M
def agz(h:KF o=M):∀c,o.op≠ .defer c:=by
 intro c a;unfold KF at h;rw[a]at h;cases h
def abh{P:Ax}(d:∀(j:Nat) (o:Oper),ops[j]?=O o->KF o=M)(e:¬LetsOut Q)(h:wpOp P ops Q i K a w):wpOpIn (Fence.wide.inRound l) n P ops Q i K a w:=by
 unfold wpOp at h;unfold wpOpIn;cases ho:ops[i]? with
 |none=>simpa [ho] using h
 |some o=>
  simp only[ho]at h⊢;split
  .rename_i b;simp only[b,kJ]at h;rcases h with h|h
   .refine⟨λc _=>trivial,?_⟩;show o.uponIn _ _ _ _ _ _ ((o.semAt (O l) a.eval).run P w);rw[mi l a.eval o (agz (d i o ho))];exact abg _ h
   .exact absurd h.2 e
  .rename_i b;simp only[b]at h;exact⟨λc _=>trivial,by simpa using h⟩
def xw{P:Ax}(b:∀(j:Nat) (o:Oper),ops[j]?=O o->KF o=M)(c:¬LetsOut Q):
  ∀(fuel:Nat)(d:Array Bool)(a:Act)(w:Z),wpAny P md ops Q fuel d a w->wpAnyIn (Fence.wide.inRound l) n P md ops Q fuel d a w
 |0,_,_,_,h=>h
 |fuel+1,_,_,_,h=>⟨h.1,λi g=>abh b c (wpOp_mono (λe w' f=>xw b c fuel _ e w' f) (h.2 i g))⟩
def yJ{P:Ax}{id:Nat}(e:P.follows .mixedOrders=M)(c:ops.all KF=M)(g:¬LetsOut Q)(hS:S w.drew)
  (h:S w.drew->wpAnyH P .any ops Q S ops.size (Array.replicate ops.size V) a w.drew):(Go.Code.region id ops M).wpIn (Fence.wide.inRound l) n P Q a w:=
 wpIn_region_any e (xw (λi j f=>by
  obtain⟨d,b⟩:=Array.getElem?_eq_some_iff.1 f;rw[<-b];exact Array.all_eq_true.1 c i d) g _ _ _ _ (wpAny_of_held _ _ _ _ (h hS)))
def agA{P:Ax}(i:Nat)(d:Tmp)(v:A2){fuel:Nat}{b:Array Bool}(j:ops[i]?=O oi)(e:oi.dst=O d)
  (l:Region.noSelect ops=M) (g:Region.free md ops b i=M) (k:(Region.ready md ops b).contains i=M)
  (f:∀c a w,Q (.panic c) (a.put (O d) v) w->Q (.panic c) a w) (m:Region.wanted oi (yielded ops a.tmps)=M) (hS:S w) (n:∀w,S w->(execOp a.eval oi).run P w= .ok (.value v) w)
  (h:wpAnyH P md ops Q S fuel (b.setIfInBounds i M) (a.put (O d) v) w):wpAnyH P md ops Q S (fuel+1) b a w:=
 wpAnyH_take j l g k (by rw[e];exact f) (Or.inl ⟨m,n⟩) hS (by rw[e];exact h)
def ap7(b:Region.Mode)(a:Array Oper)(m:List Bool)(i:Nat)(l:List A2):Bool:=Region.noSelect a&&Region.free b a m.toArray i&&(Region.ready b a m.toArray).contains i&&(match a[i]? with|some o=>Region.wanted o (yielded a l.toArray)|none=>V)
def dB{P:Ax}(i:Nat)(v:A2){d:Tmp}{fuel:Nat}{m:List Bool}{l:List A2}{e:List Deferred}(f:ops[i]?=O oi)(j:oi.dst=O d)
  (hS:S w) (k:∀w,S w->(execOp (Act.mk l.toArray e).eval oi).run P w= .ok (.value v) w)
  (h:wpAnyH P md ops Q S fuel (m.set i M).toArray ⟨(l.set d v).toArray,e⟩ w) (b:ap7 md ops m i l=M:=by kernel_rfl) (g:∀c a w,Q (.panic c) (a.put (O d) v) w->Q (.panic c) a w:=by exact λ_ _ _=>id):wpAnyH P md ops Q S (fuel+1) m.toArray ⟨l.toArray,e⟩ w:=by
 unfold ap7 at b;rw[f]at b;simp only[ch]at b;refine agA i d v f j b.1.1.1 b.1.1.2 b.1.2 g b.2 hS k ?_;simp only[Act.put,fe];exact h
def ap8(b:Region.Mode)(a:Array Oper)(m:List Bool)(i:Nat)(l:List A2):Bool:=Region.noSelect a&&Region.free b a m.toArray i&&(Region.ready b a m.toArray).contains i&&!(match a[i]? with|some o=>Region.wanted o (yielded a l.toArray)|none=>M)
def uJ{P:Ax}(i:Nat){d:Tmp}{fuel:Nat}{m:List Bool}{l:List A2}{e:List Deferred}(g:ops[i]?=O oi)(f:oi.dst=O d)(hS:S w)
  (h:wpAnyH P md ops Q S fuel (m.set i M).toArray ⟨(l.set d undef).toArray,e⟩ w) (b:ap8 md ops m i l=M:=by kernel_rfl) (j:∀c a w,Q (.panic c) (a.put (O d) undef) w->Q (.panic c) a w:=by exact λ_ _ _=>id):wpAnyH P md ops Q S (fuel+1) m.toArray ⟨l.toArray,e⟩ w:=by
 unfold ap8 at b;rw[g]at b;simp only[ch,Bool.not_eq_true']at b;refine wpAnyH_take g b.1.1.1 b.1.1.2 b.1.2 (by rw[f];exact j) (Or.inr ⟨b.2,rfl⟩) hS ?_;rw[f];simp only[Act.put,fe];exact h
def wpU(P:Ax)(d:Region.Mode)(c:Array Oper)(Q:Exit->Act->Z->Prop)(S e:Z->Prop)(C:Nat->Bool):Nat->Array Bool->Act->Z->Prop
 |0,b,a,w=>Region.ready d c b=[]/\Q .normal a w
 |fuel+1,b,a,w=>
  (Region.ready d c b=[]->Q .normal a w)/\
  ∀i∈Region.ready d c b,wpOp P c Q i (λf w'=>(e w'/\(C i=M->S w'))/\wpU P d c Q S e C fuel (b.setIfInBounds i M) f w') a w
def DA{P:Ax}:∀(fuel:Nat)(c:Array Bool)(a:Act)(w:Z),wpU P md ops Q S S2 C fuel c a w->wpAnyH P md ops Q S2 fuel c a w
 |0,_,_,_,h=>h
 |fuel+1,_,_,_,h=>⟨h.1,λi e=>wpOp_mono (λd w' b=>⟨b.1.1,DA fuel _ d w' b.2⟩) (h.2 i e)⟩
def Ar{P:Ax}{v:A2}(A:ops[i]?=O oi)(I:∀(j:Nat) (o:Oper) cs b,ops[j]?=O o->o.op≠ .select cs b)
  (al:∀c a w,Q (.panic c) (a.put oi.dst v) w->Q (.panic c) a w) (ad:∀(j:Nat) d,ops[j]?=O d->C j=V->∃e∈d.after,Region.binds md e=M/\e.on=i):
  ∀(fuel:Nat)(f:Array Bool)(a:Act)(w:Z),
   (∀j d,ops[j]?=O d->j≠i->f.getD j M=V->(∀e∈d.after,Region.binds md e=M->e.on≠i)->oi.apart ops d=M)->
   i∈Region.ready md ops f->YieldsIf P ops S oi v a->S2 w->S w->
   wpU P md ops Q S S2 C fuel (f.setIfInBounds i M) (a.put oi.dst v) w->wpAnyH P md ops Q S2 (fuel+1) f a w:=by
 intro fuel
 induction fuel with
 |zero=>
  intro f a w _ k s u hS m;refine⟨λt=>(by rw[t]at k;cases k),λj q=>?_⟩;by_cases g:j=i
  .subst g;exact s.wpOp A hS ⟨u,DA _ _ _ _ m⟩
  .have:=ready_mono q g;rw[m.1]at this;cases this
 |succ fuel av=>
  intro f a w E k s u hS m;refine⟨λt=>(by rw[t]at k;cases k),λj q=>?_⟩;by_cases g:j=i
  .subst g;exact s.wpOp A hS ⟨u,DA _ _ _ _ m⟩
  .have h:=m.2 j (ready_mono q g);have⟨G,d,r,an⟩:=mem_ready.1 q;have H:∀e∈d.after,Region.binds md e=M->e.on≠i:=λe y x z=>by
    have h:=an e y x;have B:=(mem_ready.1 k).1;rw[z]at h;rcases bI i f.size with h'|h'
    .simp[h']at B h;rw[B]at h;cases h
    .simp[yw h']at h
   have ak:C j=M:=by
    cases hc:C j with
    |true=>rfl
    |false=>
     have⟨e,y,x,z⟩:=ad j d r hc;exact absurd z (H e y x)
   have L:=wpOp_putIf r (E j d r g G H) (λcs b=>I i oi cs b A) (λcs b=>I j d cs b r) al s h;have ao:∀l p,ops[l]?=O p->l≠i->(f.setIfInBounds j M).getD l M=V->
     (∀e∈p.after,Region.binds md e=M->e.on≠i)->oi.apart ops p=M:=λl p ap ar J au=>by
    refine E l p ap ar ?_ au;by_cases F:j=l
    .subst F;exact G
    .rw[getD_set_ne M F]at J;exact J
   refine wpOp_mono (λK ax n=>⟨n.2.1.1,av (f.setIfInBounds j M) K ax ao (ready_mono k (ez g)) n.1 n.2.1.1 (n.2.1.2 ak) ?_⟩) L;rw[Array.setIfInBounds_comm _ _ g];exact n.2.2
def iH{P:Ax}{fuel:Nat}{c:Array Bool}(l:Region.ready md ops c=[i])(r:ops[i]?=O o)
  (h:∀d:Act->Z->Prop,Shut (∀a w,S2 w->(C i=M->S w)->wpU P md ops Q S S2 C fuel (c.setIfInBounds i M) a w->d a w)->if Region.wanted o (yielded ops a.tmps)=M then Oper.wp P o a w d Q else d (a.put o.dst undef) w):wpU P md ops Q S S2 C (fuel+1) c a w:=by
 refine⟨λj=>(by rw[l]at j;cases j),λf k=>?_⟩;rw[l]at k;obtain rfl:f=i:=by simpa using k
 have b:=h (λm g=>(S2 g/\(C f=M->S g))/\wpU P md ops Q S S2 C fuel (c.setIfInBounds f M) m g) (λa w n p q=>⟨⟨n,p⟩,q⟩);unfold wpOp;simp only[r];split
 .rename_i e;rw[ae e]at b;exact .inl b
 .rename_i e;rw[aa e]at b;exact b
def DB{P:Ax}{c:Array Bool}(b:Region.ready md ops c=[])(h:Q .normal a w):
  ∀fuel,wpU P md ops Q S S2 C fuel c a w
 |0=>⟨b,h⟩
 |_+1=>⟨λ_=>h,by rw[b];simp⟩
structure Tk where
 k:Int
 f:Int
 t:Int
 l:Int
 n:Int
 x:ByteArray
def vTk(T:Tk):A2:= .agg #[A9 Br T.k,A9 Br T.f,A9 Br T.t,A9 Br T.l,A9 Br T.n,B3 T.x]
def cTk(T:Tk):List A2:=[A9 Br T.k,A9 Br T.f,A9 Br T.t,A9 Br T.l,A9 Br T.n,B3 T.x]
def Ip(ts:List Tk):List A2:=ts.flatMap cTk
def KG(a:List Tk)(T:Tk):Ip (a++[T])=Ip a++cTk T:=by simp[Ip]
inductive Fo where
 |nil:Fo
 |cons:Nd->Fo->Fo->Fo
def Fo.sz:Fo->Nat
 | .nil=>0
 | .cons _ k r=>k.sz+1+r.sz
def Fo.len:Fo->Nat
 | .nil=>0
 | .cons _ _ r=>r.len+1
def Fo.tops:Fo->Nat->List Int
 | .nil,_=>[]
 | .cons _ k r,b=>((b+k.sz:Nat):Int)::r.tops (b+k.sz+1)
def Fo.flat:Fo->Nat->List Nd
 | .nil,_=>[]
 | .cons N k r,b=>k.flat b++({N with ks:=k.tops b}::r.flat (b+k.sz+1))
def Fo.app:Fo->Fo->Fo
 | .nil,c=>c
 | .cons N k r,c=> .cons N k (r.app c)
def one(N:Nd)(k:Fo):Fo:= .cons N k .nil
def Fo.app_nil:∀(a:Fo),a.app .nil=a
 | .nil=>rfl
 | .cons N k r=>by rw[Fo.app,r.app_nil]
def Fo.app_app:∀(a b c:Fo),(a.app b).app c=a.app (b.app c)
 | .nil,_,_=>rfl
 | .cons N k r,b,c=>by simp only[Fo.app];rw[r.app_app b c]
def Fo.sz_app:∀(a c:Fo),(a.app c).sz=a.sz+c.sz
 | .nil,c=>by simp[Fo.app,Fo.sz]
 | .cons N k r,c=>by simp only[Fo.app,Fo.sz,r.sz_app c];omega
def Fo.len_app:∀(a c:Fo),(a.app c).len=a.len+c.len
 | .nil,c=>by simp[Fo.app,Fo.len]
 | .cons N k r,c=>by simp only[Fo.app,Fo.len,r.len_app c];omega
def Fo.tops_app:∀(a c:Fo)(b:Nat),(a.app c).tops b=a.tops b++c.tops (b+a.sz)
 | .nil,c,b=>by simp[Fo.app,Fo.sz,Fo.tops]
 | .cons N k r,c,b=>by simp only[Fo.app,Fo.tops,Fo.sz,r.tops_app c,ed];rw[show b+k.sz+1+r.sz=b+(k.sz+1+r.sz) by omega]
def Fo.flat_app:∀(a c:Fo)(b:Nat),(a.app c).flat b=a.flat b++c.flat (b+a.sz)
 | .nil,c,b=>by simp[Fo.app,Fo.sz,Fo.flat]
 | .cons N k r,c,b=>by simp only[Fo.app,Fo.flat,Fo.sz,r.flat_app c,ed,dj];rw[show b+k.sz+1+r.sz=b+(k.sz+1+r.sz) by omega]
def Fo.flat_len:∀(a:Fo)(b:Nat),(a.flat b).length=a.sz
 | .nil,_=>rfl
 | .cons N k r,b=>by simp only[Fo.flat,Fo.sz,bm,bB,k.flat_len,r.flat_len];omega
def Fo.tops_len:∀(a:Fo)(b:Nat),(a.tops b).length=a.len
 | .nil,_=>rfl
 | .cons N k r,b=>by simp only[Fo.tops,Fo.len,bB,r.tops_len]
def dL(N:Nd)(k:Fo):(one N k).sz=k.sz+1:=rfl
def agB(N:Nd)(k:Fo)(b:Nat):(one N k).tops b=[((b+k.sz:Nat):Int)]:=rfl
def DC(N:Nd)(k:Fo)(b:Nat):(one N k).flat b=k.flat b++[{N with ks:=k.tops b}]:=rfl
def Fo.len_le:∀(a:Fo),a.len<=a.sz
 | .nil=>af _
 | .cons N k r=>by have:=r.len_le;simp only[Fo.len,Fo.sz];omega
def z0:ByteArray:=⟨#[]⟩
def nd(k:Int)(s:Tk)(e op n:Int)(x:ByteArray)(nm:List ByteArray):Nd:=⟨k,s.f,e,s.l,op,n,x,nm,[]⟩
def mA(k:Int)(s:Tk)(e:Int):Nd:=nd k s e 0 0 z0 []
def As(k:Int)(s:Tk)(e:Int):Nd:=if k=10 then mA 28 s e else if k=26 then mA 29 s e else nd 31 s e (k-60) 0 z0 []
def aka(k:Int):Int:=if k=25 then 21 else if k=50 then 22 else if k=69 then 20 else 19
def C0(k:Int):Int:=if k=26 then 1 else if k=10 then 2 else if 73<=k then 3 else if k=72 then 4 else if k=68 then 5 else if k=69 then 6 else if k=67 then 7 else if k=70\/k=71 then 8 else if k=61\/k=62 then 9 else 10
def rpw(k:Int):Int:=if k=72 then 4 else C0 k+1
def yK(k:Int):Bool:=decide (k=48\/k=44\/k=40)
def od(N:Nd)(ks:Fo)(s:Tk)(e:Int):Fo:=if N.k=34\/N.k=27 then one (mA 37 s e) (one N ks) else one N ks
inductive KH (tk:Nat->Tk) (n:Nat):Nat->List ByteArray->Nat->Prop where
 |stop {k:Nat}:(tk k).k≠46->k<n->KH tk n k [] k
 |go {k j:Nat}{ns:List ByteArray}:(tk k).k=46->k+1<n->(tk (k+1)).k=1->KH tk n (k+2) ns j->KH tk n k ((tk (k+1)).x::ns) j
inductive Prm (tk:Nat->Tk) (n:Nat):Nat->List ByteArray->Bool->Nat->Prop where
 |close {k:Nat}:(tk k).k=41->k+1<n->Prm tk n k [] false (k+1)
 |rest {k:Nat}:(tk k).k=49->(tk (k+1)).k=41->k+2<n->Prm tk n k [] true (k+2)
 |last {k:Nat}:(tk k).k=1->(tk (k+1)).k=41->k+2<n->Prm tk n k [(tk k).x] false (k+2)
 |go {k j:Nat}{ns:List ByteArray}{r:Bool}:(tk k).k=1->(tk (k+1)).k=46->k+2<n->Prm tk n (k+2) ns r j->Prm tk n k ((tk k).x::ns) r j
inductive Tsk where
 |unit:Tsk
 |expr:Int->Tsk
 |more:Int->Tk->Fo->Tsk
 |base:Tsk
 |post:Tk->Fo->Tsk
 |exprs:Tsk
 |moreE:Tsk
 |moreB:Tsk
 |stat:Tsk
 |stats:Tsk
 |block:Tsk
 |body:Tk->Tsk
 |entry:Tsk
 |entries:Tsk
 |branch:Tsk
inductive P (tk:Nat->Tk) (n:Nat):Tsk->Nat->Fo->Nat->Prop where
 |upre {i j:Nat}{x:Fo}:qh (tk i).k=true->i<n->P tk n .unit (i+1) x j->P tk n .unit i (one (nd 30 (tk i) (tk (j-1)).t (aka (tk i).k) 0 z0 []) x) j
 |uint {i:Nat}:(tk i).k=2->i+1<n->P tk n .unit i (one (nd 23 (tk i) (tk i).t 0 (tk i).n z0 []) .nil) (i+1)
 |uflt {i:Nat}:(tk i).k=3->i+1<n->P tk n .unit i (one (nd 24 (tk i) (tk i).t 0 0 (tk i).x []) .nil) (i+1)
 |ustr {i:Nat}:(tk i).k=4->i+1<n->P tk n .unit i (one (nd 25 (tk i) (tk i).t 0 0 (tk i).x []) .nil) (i+1)
 |unil {i:Nat}:(tk i).k=24->i+1<n->P tk n .unit i (one (mA 20 (tk i) (tk i).t) .nil) (i+1)
 |utru {i:Nat}:(tk i).k=29->i+1<n->P tk n .unit i (one (mA 21 (tk i) (tk i).t) .nil) (i+1)
 |ufls {i:Nat}:(tk i).k=17->i+1<n->P tk n .unit i (one (mA 22 (tk i) (tk i).t) .nil) (i+1)
 |urst {i:Nat}:(tk i).k=49->i+1<n->P tk n .unit i (one (mA 27 (tk i) (tk i).t) .nil) (i+1)
 |ufn {i j:Nat}{R:Fo}:(tk i).k=18->i<n->P tk n (.body (tk i)) (i+1) R j->P tk n .unit i R j
 |utab {i j:Nat}{E:Fo}:(tk i).k=42->i<n->P tk n .entries (i+1) E j->(tk j).k=43->j+1<n->P tk n .unit i (one (mA 35 (tk i) (tk j).t) E) (j+1)
 |ubas {i j:Nat}{R:Fo}:(tk i).k=1\/(tk i).k=40->i<n->P tk n .base i R j->P tk n .unit i R j
 |ex {p:Int}{i k j:Nat}{x R:Fo}:(tk i).k≠6->i<n->P tk n .unit i x k->P tk n (.more p (tk i) x) k R j->P tk n (.expr p) i R j
 |mstop {p:Int}{s:Tk}{x:Fo}{k:Nat}:k<n->(jx (tk k).k=true->C0 (tk k).k<p)->P tk n (.more p s x) k x k
 |mgo {p:Int}{s:Tk}{x y R:Fo}{k k1 j:Nat}:k<n->jx (tk k).k=true->p<=C0 (tk k).k->P tk n (.expr (rpw (tk k).k)) (k+1) y k1->P tk n (.more p s (one (As (tk k).k s (tk (k1-1)).t) (x.app y))) k1 R j->P tk n (.more p s x) k R j
 |bname {i j:Nat}{R:Fo}:(tk i).k=1->i<n->P tk n (.post (tk i) (one (nd 26 (tk i) (tk i).t 0 0 (tk i).x []) .nil)) (i+1) R j->P tk n .base i R j
 |bopen {i k j:Nat}{N:Nd}{ks R:Fo}:(tk i).k=40->i<n->P tk n (.expr 0) (i+1) (one N ks) k->(tk k).k=41->k<n->P tk n (.post (tk i) (od N ks (tk i) (tk k).t)) (k+1) R j->P tk n .base i R j
 |pstop {s:Tk}{B:Fo}{k:Nat}:k<n->yK (tk k).k=false->P tk n (.post s B) k B k
 |pdot {s:Tk}{B R:Fo}{k j:Nat}:(tk k).k=48->(tk (k+1)).k=1->k+1<n->P tk n (.post s (one (nd 33 s (tk (k+1)).t 0 0 (tk (k+1)).x []) B)) (k+2) R j->P tk n (.post s B) k R j
 |psq {s:Tk}{B Y R:Fo}{k k1 j:Nat}:(tk k).k=44->k<n->P tk n (.expr 0) (k+1) Y k1->(tk k1).k=45->k1<n->P tk n (.post s (one (mA 32 s (tk k1).t) (B.app Y))) (k1+1) R j->P tk n (.post s B) k R j
 |pcall0 {s:Tk}{B R:Fo}{k j:Nat}:(tk k).k=40->(tk (k+1)).k=41->k+1<n->P tk n (.post s (one (mA 34 s (tk (k+1)).t) B)) (k+2) R j->P tk n (.post s B) k R j
 |pcall {s:Tk}{B Y R:Fo}{k k1 j:Nat}:(tk k).k=40->k+1<n->(tk (k+1)).k≠41->P tk n .exprs (k+1) Y k1->(tk k1).k=41->k1<n->P tk n (.post s (one (mA 34 s (tk k1).t) (B.app Y))) (k1+1) R j->P tk n (.post s B) k R j
 |es {i k j:Nat}{x R:Fo}:P tk n (.expr 0) i x k->P tk n .moreE k R j->P tk n .exprs i (x.app R) j
 |estop {k:Nat}:(tk k).k≠46->k<n->P tk n .moreE k .nil k
 |ego {k k1 j:Nat}{x R:Fo}:(tk k).k=46->k<n->P tk n (.expr 0) (k+1) x k1->P tk n .moreE k1 R j->P tk n .moreE k (x.app R) j
 |bstop {k:Nat}:(tk k).k≠46->k<n->P tk n .moreB k .nil k
 |bgo {k k1 j:Nat}{x R:Fo}:(tk k).k=46->k<n->P tk n .base (k+1) x k1->P tk n .moreB k1 R j->P tk n .moreB k (x.app R) j
 |body {i k j:Nat}{s:Tk}{nm:List ByteArray}{r:Bool}{B:Fo}:(tk i).k=40->i<n->Prm tk n (i+1) nm r k->P tk n .block k B j->P tk n (.body s) i (one (nd 36 s (tk (j-1)).t (if r=true then 1 else 0) 0 z0 nm) B) j
 |block {i k:Nat}{S:Fo}:(tk i).k=42->i<n->P tk n .stats (i+1) S k->(tk k).k=43->k+1<n->P tk n .block i (one (mA 1 (tk i) (tk k).t) S) (k+1)
 |sstop {k:Nat}:(tk k).k=43\/(tk k).k=6->k<n->P tk n .stats k .nil k
 |ssep {k j:Nat}{R:Fo}:(tk k).k=5->k<n->P tk n .stats (k+1) R j->P tk n .stats k R j
 |sgo {k k1 j:Nat}{x R:Fo}:(tk k).k≠5->(tk k).k≠6->(tk k).k≠43->k<n->P tk n .stat k x k1->P tk n .stats k1 R j->P tk n .stats k (x.app R) j
 |nstop {k:Nat}:(tk k).k=43->k<n->P tk n .entries k .nil k
 |ncom {k k1 j:Nat}{x R:Fo}:(tk k).k≠43->k<n->P tk n .entry k x k1->(tk k1).k=46->k1<n->P tk n .entries (k1+1) R j->P tk n .entries k (x.app R) j
 |nlast {k k1 j:Nat}{x R:Fo}:(tk k).k≠43->k<n->P tk n .entry k x k1->(tk k1).k≠46->k1<n->P tk n .entries k1 R j->P tk n .entries k (x.app R) j
 |item {i j:Nat}{x:Fo}:(tk i).k≠48->(tk i).k≠44->(tk i).k≠6->i<n->P tk n (.expr 0) i x j->P tk n .entry i (one (mA 40 (tk i) (tk (j-1)).t) x) j
 |pair {i k j:Nat}{x y:Fo}:(tk i).k=44->i<n->P tk n (.expr 0) (i+1) x k->(tk k).k=45->(tk (k+1)).k=47->k+1<n->P tk n (.expr 0) (k+2) y j->P tk n .entry i (one (mA 41 (tk i) (tk (j-1)).t) (x.app y)) j
 |named {i j:Nat}{y:Fo}:(tk i).k=48->(tk (i+1)).k=1->(tk (i+2)).k=47->i+2<n->P tk n (.expr 0) (i+3) y j->P tk n .entry i (one (nd 42 (tk i) (tk (j-1)).t 0 0 (tk (i+1)).x []) y) j
 |belif {i k k1 j:Nat}{x b z:Fo}:(tk i).k=20\/(tk i).k=15->i<n->P tk n (.expr 0) (i+1) x k->P tk n .block k b k1->(tk k1).k=15->k1<n->P tk n .branch k1 z j->P tk n .branch i (one (mA 7 (tk i) (tk (j-1)).t) ((x.app b).app z)) j
 |belse {i k k1 j:Nat}{x b z:Fo}:(tk i).k=20\/(tk i).k=15->i<n->P tk n (.expr 0) (i+1) x k->P tk n .block k b k1->(tk k1).k=16->k1<n->P tk n .block (k1+1) z j->P tk n .branch i (one (mA 7 (tk i) (tk (j-1)).t) ((x.app b).app z)) j
 |bno {i k k1:Nat}{x b:Fo}:(tk i).k=20\/(tk i).k=15->i<n->P tk n (.expr 0) (i+1) x k->P tk n .block k b k1->(tk k1).k≠15->(tk k1).k≠16->k1<n->P tk n .branch i (one (mA 7 (tk i) (tk (k1-1)).t) (x.app b)) k1
 |tlet0 {i k:Nat}{ns:List ByteArray}:(tk i).k=22->i+1<n->(tk (i+1)).k=1->KH tk n (i+2) ns k->(tk k).k≠47->P tk n .stat i (one (nd 2 (tk i) (tk (k-1)).t 0 0 z0 ((tk (i+1)).x::ns)) .nil) k
 |tlet {i k j:Nat}{ns:List ByteArray}{E:Fo}:(tk i).k=22->i+1<n->(tk (i+1)).k=1->KH tk n (i+2) ns k->(tk k).k=47->P tk n .exprs (k+1) E j->P tk n .stat i (one (nd 2 (tk i) (tk (j-1)).t 0 0 z0 ((tk (i+1)).x::ns)) E) j
 |tcon {i j:Nat}{x:Fo}:(tk i).k=13->(tk (i+1)).k=1->(tk (i+2)).k=47->i+2<n->P tk n (.expr 0) (i+3) x j->P tk n .stat i (one (nd 3 (tk i) (tk (j-1)).t 0 0 z0 [(tk (i+1)).x]) x) j
 |tfn {i j:Nat}{B:Fo}:(tk i).k=18->(tk (i+1)).k=1->(tk (i+2)).k=40->i+2<n->P tk n (.body (tk (i+2))) (i+2) B j->P tk n .stat i (one (nd 4 (tk i) (tk (j-1)).t 0 0 z0 [(tk (i+1)).x]) B) j
 |tif {i j:Nat}{R:Fo}:(tk i).k=20->i<n->P tk n .branch i R j->P tk n .stat i R j
 |twhile {i k j:Nat}{x b:Fo}:(tk i).k=31->i<n->P tk n (.expr 0) (i+1) x k->P tk n .block k b j->P tk n .stat i (one (mA 8 (tk i) (tk (j-1)).t) (x.app b)) j
 |tfor {i k k1 j:Nat}{ns:List ByteArray}{E b:Fo}:(tk i).k=19->i+1<n->(tk (i+1)).k=1->KH tk n (i+2) ns k->(tk k).k=47->P tk n .exprs (k+1) E k1->P tk n .block k1 b j->P tk n .stat i (one (nd 9 (tk i) (tk (j-1)).t 0 0 z0 ((tk (i+1)).x::ns)) (E.app b)) j
 |teach {i k k1 j:Nat}{ns:List ByteArray}{x b:Fo}:(tk i).k=19->i+1<n->(tk (i+1)).k=1->KH tk n (i+2) ns k->(tk k).k=21->P tk n (.expr 0) (k+1) x k1->(tk k1).k=42->k1<n->P tk n .block k1 b j->P tk n .stat i (one (nd 10 (tk i) (tk (j-1)).t 0 0 z0 ((tk (i+1)).x::ns)) (x.app b)) j
 |tbreak {i:Nat}:(tk i).k=11->i+1<n->P tk n .stat i (one (mA 11 (tk i) (tk i).t) .nil) (i+1)
 |tnext {i:Nat}:(tk i).k=23->i+1<n->P tk n .stat i (one (mA 12 (tk i) (tk i).t) .nil) (i+1)
 |tret0 {i:Nat}:(tk i).k=27->i+1<n->(tk (i+1)).k=5\/(tk (i+1)).k=6\/(tk (i+1)).k=43->P tk n .stat i (one (mA 13 (tk i) (tk i).t) .nil) (i+1)
 |tret {i j:Nat}{E:Fo}:(tk i).k=27->i+1<n->gJ (tk (i+1)).k=true->P tk n .exprs (i+1) E j->P tk n .stat i (one (mA 13 (tk i) (tk (j-1)).t) E) j
 |ttry {i k k1 j:Nat}{ns:List ByteArray}{a b:Fo}:(tk i).k=30->i<n->P tk n .block (i+1) a k->(tk k).k=12->k+1<n->(tk (k+1)).k=1->KH tk n (k+2) ns k1->P tk n .block k1 b j->P tk n .stat i (one (nd 14 (tk i) (tk (j-1)).t 0 0 z0 ((tk (k+1)).x::ns)) (a.app b)) j
 |tthrow {i j:Nat}{x:Fo}:(tk i).k=28->i<n->P tk n (.expr 0) (i+1) x j->P tk n .stat i (one (mA 15 (tk i) (tk (j-1)).t) x) j
 |tdefer {i j:Nat}{x:Fo}:(tk i).k=14->i<n->P tk n .base (i+1) x j->P tk n .stat i (one (mA 16 (tk i) (tk (j-1)).t) x) j
 |tblock {i j:Nat}{R:Fo}:(tk i).k=42->i<n->P tk n .block i R j->P tk n .stat i R j
 |tdo {i j:Nat}{x:Fo}:(tk i).k=1\/(tk i).k=40->i<n->P tk n .base i x j->(tk j).k≠46->(tk j).k≠47->j<n->P tk n .stat i (one (mA 6 (tk i) (tk (j-1)).t) x) j
 |tset {i k k1 j:Nat}{x R E:Fo}:(tk i).k=1\/(tk i).k=40->i<n->P tk n .base i x k->P tk n .moreB k R k1->(tk k1).k=47->k1<n->P tk n .exprs (k1+1) E j->P tk n .stat i (one (nd 5 (tk i) (tk (j-1)).t 0 ((x.app R).len:Nat) z0 []) ((x.app R).app E)) j
inductive D (tk:Nat->Tk) (n:Nat):Nat->List Int->Nat->Nat->Prop where
 |nil {i:Nat}:D tk n 0 [] i i
 |tok {m:Nat}{s:Int}{r:List Int}{i j:Nat}:s<100->(tk i).k=s->i<n->D tk n m r (i+1) j->D tk n (m+1) (s::r) i j
 |exp {m:Nat}{s:Int}{r:List Int}{i j:Nat}:100<=s->i<n->(xE s (tk i).k).2=true->D tk n m ((xE s (tk i).k).1++r) i j->D tk n (m+1) (s::r) i j
def DF(b:Nat):Deferred:={target:= .collected b,args:=#[]}
structure vI (B:Nat) (c:List Nat) (W:Z):Prop where
 nd:c.Nodup
 lo:∀b∈c,B<=b
 at_:∀b∈c,W.heap[b]?=O (.deferred (O []))
structure Iq (c:List Nat) (W W':Z):Prop where
 os:W'.os=W.os
 tape:W'.tape=W.tape
 output:W'.output=W.output
 size:W'.heap.size=W.heap.size
 same:∀k,k ∉ c->W'.heap[k]?=W.heap[k]?
def ul{F:Fence}{P:Ax}{g:Func}{tmps:Array A2}{R:Ending->Z->Prop}(B:Nat):∀(c:List Nat)(W:Z),vI B c W->(∀W',Iq c W W'->LeavesInM F n P g tmps R [] .returning W')->LeavesInM F n P g tmps R (c.map DF) .returning W
 |[],W,_,h=>h W ⟨rfl,rfl,rfl,rfl,λ_ _=>rfl⟩
 |b::c,W,f,h=>by
  have j:=f.at_ b (by simp);have i:=List.nodup_cons.1 f.nd;refine⟨by simp,.inl ⟨b,_,rfl,run_takeDeferred j,?_⟩⟩;refine ul B c _ ⟨i.2,λe a=>f.lo e (by simp[a]),λe a=>?_⟩ (λW' d=>?_)
  .exact(U (by rintro rfl;exact i.1 a)).trans (f.at_ e (by simp[a]))
  .refine h W' ⟨d.os,d.tape,d.output,d.size.trans (by simp),λe a=>?_⟩;simp at a;exact(d.same e a.2).trans (U a.1)
def Iq.below(h:Iq c W W')(a:Below B w W)(e:∀b∈c,B<=b)(i:B<=w.heap.size):Below B w W':=
 ⟨h.os.trans a.os,h.tape.trans a.tape,h.output.trans a.output,by rw[h.size];exact a.size,λd f=>(h.same d (λg=>by have:=e d g;omega)).trans (a.block d f)⟩
def vI.below(h:vI B c W)(d:be W W'):vI B c W':=
 ⟨h.nd,h.lo,λa b=>(d.block a (Array.getElem?_eq_some_iff.1 (h.at_ a b)).1).trans (h.at_ a b)⟩
def vI.keeps(h:vI B c W)(b:KeepsOthers W W'):vI B c W':=
 ⟨h.nd,h.lo,λa d=>b.same a _ (h.at_ a d) rfl⟩
abbrev mv(b:Nat)(f:FuncId):A2:= .func (.func f) #[.pointer (O ⟨b,0,A5⟩)] #[]
def abi(b:Nat):Array A2:=#[.nilFunc,mv b 41,mv b 42,mv b 43,mv b 44,mv b 45,mv b 46,mv b 47,mv b 48,mv b 49,mv b 50,mv b 51,mv b 52,mv b 53,mv b 54,mv b 55,mv b 56,.nilFunc,.nilFunc,.nilFunc,mv b 57,mv b 58,mv b 59,mv b 60,mv b 61,mv b 62,mv b 63,mv b 64,mv b 65,mv b 65,mv b 66,mv b 65,mv b 67,mv b 68,mv b 69,mv b 70,mv b 71,mv b 72,.nilFunc,.nilFunc,mv b 73,mv b 74,mv b 75]
def Ir{base g:Nat}(h:Below base w W)(c:base<=g)(cs:Array A2):Below base w (W.setRow g cs):=
 ⟨h.os,h.tape,h.output,by unfold World.setRow;simp;exact h.size,λa b=>by
  unfold World.setRow;have:a≠g:=by omega
  simp only[Array.getElem?_modify];rw[aa (by omega)];exact h.block a b⟩
def DH(w:Z):
  Calls B0 17 #[] w λe w'=>e= B1 (.pointer (O ⟨w.heap.size,0,A5⟩))/\w'.heap[w.heap.size]?=O (.cells (abi w.heap.size) 100 (0,0))/\Below w.heap.size w w':=by
 have a:=aB w (.cells #[.nilFunc,.nilFunc,.nilFunc,.nilFunc,.nilFunc,.nilFunc,.nilFunc,.nilFunc,.nilFunc,.nilFunc,.nilFunc,.nilFunc,.nilFunc,.nilFunc,.nilFunc,.nilFunc,.nilFunc,.nilFunc,.nilFunc,.nilFunc,.nilFunc,.nilFunc,.nilFunc,.nilFunc,.nilFunc,.nilFunc,.nilFunc,.nilFunc,.nilFunc,.nilFunc,.nilFunc,.nilFunc,.nilFunc,.nilFunc,.nilFunc,.nilFunc,.nilFunc,.nilFunc,.nilFunc,.nilFunc,.nilFunc,.nilFunc,.nilFunc] 100);have c:Below w.heap.size w (w.alloc (.cells #[.nilFunc,.nilFunc,.nilFunc,.nilFunc,.nilFunc,.nilFunc,.nilFunc,.nilFunc,.nilFunc,.nilFunc,.nilFunc,.nilFunc,.nilFunc,.nilFunc,.nilFunc,.nilFunc,.nilFunc,.nilFunc,.nilFunc,.nilFunc,.nilFunc,.nilFunc,.nilFunc,.nilFunc,.nilFunc,.nilFunc,.nilFunc,.nilFunc,.nilFunc,.nilFunc,.nilFunc,.nilFunc,.nilFunc,.nilFunc,.nilFunc,.nilFunc,.nilFunc,.nilFunc,.nilFunc,.nilFunc,.nilFunc,.nilFunc,.nilFunc] 100)):=(ah _ w).alloc (af _) _;go_enter Tryz.func17,Tryz.ntmps17;go_wp21
 have b:=run_storeVar_row (P:=B0) _ w.heap.size 100 98 _ (abi w.heap.size) a (by kernel_rfl) rfl (by kernel_rfl);simp[go_sem,abi,mv]at b;rw[b];go_wp2;go_ret;exact⟨rfl,setRow_heap _ _ _ _ _ _ a,Ir c (af _) _⟩
