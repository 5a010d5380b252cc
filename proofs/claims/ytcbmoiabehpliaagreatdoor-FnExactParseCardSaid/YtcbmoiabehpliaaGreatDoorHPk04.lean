import Derived.Test.YtcbmoiabehpliaaGreatDoorHPk01
import Derived.Test.YtcbmoiabehpliaaGreatDoorHPk02
import Derived.Maps.OwnSet
set_option linter.unusedVariables false
set_option maxRecDepth 100000
set_option maxHeartbeats 3200000
namespace Go.Proofs.YtcbmoiabehpliaaGreatDoor
open Go.RowKit
def ny:Array Value:=#[.string ⟨#[]⟩,.string ⟨#[43]⟩,.string ⟨#[45]⟩,.string ⟨#[42]⟩,.string ⟨#[47]⟩,.string ⟨#[47,47]⟩,.string ⟨#[37]⟩,.string ⟨#[38]⟩,.string ⟨#[124]⟩,.string ⟨#[126]⟩,.string ⟨#[60,60]⟩,.string ⟨#[62,62]⟩,.string ⟨#[46,46]⟩,.string ⟨#[61,61]⟩,.string ⟨#[126,61]⟩,.string ⟨#[60]⟩,.string ⟨#[60,61]⟩,.string ⟨#[62]⟩,.string ⟨#[62,61]⟩]
def cY:Array Value:=#[.string ⟨#[40]⟩,.string ⟨#[41]⟩,.string ⟨#[123]⟩,.string ⟨#[125]⟩,.string ⟨#[91]⟩,.string ⟨#[93]⟩,.string ⟨#[44]⟩,.string ⟨#[61]⟩,.string ⟨#[46]⟩,.string ⟨#[46,46,46]⟩,.string ⟨#[35]⟩]
def cL:Array Value:=#[.string ⟨#[46,46,46]⟩,.string ⟨#[46,46]⟩,.string ⟨#[46]⟩,.string ⟨#[60,60]⟩,.string ⟨#[60,61]⟩,.string ⟨#[60]⟩,.string ⟨#[62,62]⟩,.string ⟨#[62,61]⟩,.string ⟨#[62]⟩,.string ⟨#[61,61]⟩,.string ⟨#[61]⟩,.string ⟨#[126,61]⟩,.string ⟨#[126]⟩,.string ⟨#[47,47]⟩,.string ⟨#[47]⟩,.string ⟨#[40]⟩,.string ⟨#[41]⟩,.string ⟨#[123]⟩,.string ⟨#[125]⟩,.string ⟨#[91]⟩,.string ⟨#[93]⟩,.string ⟨#[44]⟩,.string ⟨#[59]⟩,.string ⟨#[35]⟩,.string ⟨#[43]⟩,.string ⟨#[45]⟩,.string ⟨#[42]⟩,.string ⟨#[37]⟩,.string ⟨#[38]⟩,.string ⟨#[124]⟩]
theorem DG:(#[.string ⟨#[]⟩,.string ⟨#[43]⟩,.string ⟨#[45]⟩,.string ⟨#[42]⟩,.string ⟨#[47]⟩,.string ⟨#[47,47]⟩,.string ⟨#[37]⟩,.string ⟨#[38]⟩,.string ⟨#[124]⟩,.string ⟨#[126]⟩,.string ⟨#[60,60]⟩,.string ⟨#[62,62]⟩,.string ⟨#[46,46]⟩,.string ⟨#[61,61]⟩,.string ⟨#[126,61]⟩,.string ⟨#[60]⟩,.string ⟨#[60,61]⟩,.string ⟨#[62]⟩,.string ⟨#[62,61]⟩]:Array Value)=ny:=rfl
theorem DH:(#[.string ⟨#[40]⟩,.string ⟨#[41]⟩,.string ⟨#[123]⟩,.string ⟨#[125]⟩,.string ⟨#[91]⟩,.string ⟨#[93]⟩,.string ⟨#[44]⟩,.string ⟨#[61]⟩,.string ⟨#[46]⟩,.string ⟨#[46,46,46]⟩,.string ⟨#[35]⟩]:Array Value)=cY:=rfl
def aD(V:Array Value)(k:Nat):ByteArray:=match V[k]? with|some (.string a)=>a|_=>ByteArray.empty
theorem Ge:∀k:Fin 19,ny[k.val]?=some (.string (aD ny k.val)):=by
 intro ⟨k,a⟩;rcases(show k=0\/k=1\/k=2\/k=3\/k=4\/k=5\/k=6\/k=7\/k=8\/k=9\/k=10\/k=11\/k=12\/k=13\/k=14\/k=15\/k=16\/k=17\/k=18 by omega) with rfl|rfl|rfl|rfl|rfl|rfl|rfl|rfl|rfl|rfl|rfl|rfl|rfl|rfl|rfl|rfl|rfl|rfl|rfl;all_goals rfl
theorem Ao:∀k:Fin 11,cY[k.val]?=some (.string (aD cY k.val)):=by
 intro ⟨k,a⟩;rcases(show k=0\/k=1\/k=2\/k=3\/k=4\/k=5\/k=6\/k=7\/k=8\/k=9\/k=10 by omega) with rfl|rfl|rfl|rfl|rfl|rfl|rfl|rfl|rfl|rfl|rfl;all_goals rfl
theorem Ap:∀k:Fin 30,cL[k.val]?=some (.string (aD cL k.val)):=by
 intro ⟨k,a⟩;rcases(show k=0\/k=1\/k=2\/k=3\/k=4\/k=5\/k=6\/k=7\/k=8\/k=9\/k=10\/k=11\/k=12\/k=13\/k=14\/k=15\/k=16\/k=17\/k=18\/k=19\/k=20\/k=21\/k=22\/k=23\/k=24\/k=25\/k=26\/k=27\/k=28\/k=29 by omega) with rfl|rfl|rfl|rfl|rfl|rfl|rfl|rfl|rfl|rfl|rfl|rfl|rfl|rfl|rfl|rfl|rfl|rfl|rfl|rfl|rfl|rfl|rfl|rfl|rfl|rfl|rfl|rfl|rfl|rfl;all_goals rfl
theorem qS:∀k:Fin 22,bj[k.val]?=some (.string (aD bj k.val)):=by
 intro ⟨k,a⟩;rcases(show k=0\/k=1\/k=2\/k=3\/k=4\/k=5\/k=6\/k=7\/k=8\/k=9\/k=10\/k=11\/k=12\/k=13\/k=14\/k=15\/k=16\/k=17\/k=18\/k=19\/k=20\/k=21 by omega) with rfl|rfl|rfl|rfl|rfl|rfl|rfl|rfl|rfl|rfl|rfl|rfl|rfl|rfl|rfl|rfl|rfl|rfl|rfl|rfl|rfl|rfl;all_goals rfl
def jb(V:Array Value)(s:ByteArray):Nat->Nat->Option Nat
 |0,_=>none
 |f+1,k=>if((aD V k).toList==s.toList)=true then some k else jb V s f (k+1)
def jR(s:ByteArray):Int:=match jb ny s 18 1 with|some a=>60+(a:Int)|none=>(match jb cY s 11 0 with|some a=>40+(a:Int)|none=>5)
theorem ic(w:World):Calls Tryz.prog 145 #[] w fun e a=>e= .returned (.slice (some ⟨w.heap.size,0,none⟩) 22 22)/\a=w.alloc (.cells bj 9):=by
 go_in;go_wp2;go_ret;exact⟨rfl,rfl⟩
theorem lR(w:World):Calls Tryz.prog 86 #[] w fun e a=>e= .returned (.slice (some ⟨w.heap.size,0,none⟩) 30 30)/\a=w.alloc (.cells cL 9):=by
 go_in;go_wp2;go_ret;exact⟨rfl,rfl⟩
theorem jr(s:ByteArray)(w:World):Calls Tryz.prog 87 #[.string s] w fun e v=>e= .returned (.int .i64 (jR s))/\Below w.heap.size w v:=by
 go_in;go_wp2_with fail;rw[DG];have t:=heap_alloc_new w (.cells ny 9);have k:Below w.heap.size w (w.alloc (.cells ny 9)):=(Below.refl _ w).alloc (Nat.le_refl _) _;generalize w.alloc (.cells ny 9)=i at t k⊢;obtain⟨C,r⟩:=ah (jb ny s 18 1);have l:=ab r;clear r;go_loop [4] (fun d=>∃a:Nat,1<=a/\a<=19/\d= .int .i64 a/\Hid (jb ny s (19-a) a=C)) (fun d=>19-(intOf d).toNat)
 case atStart=>exact⟨1,by omega,by omega,rfl,l⟩
 case round=>
  obtain⟨a,E,z,rfl,h⟩:=hrel;by_cases o:a<19
  ·have p:i.cell? ⟨w.heap.size,a,none⟩=some (.string (aD ny a)):=by rw[cell_of_row _ _ _ _ _ _ t];exact Ge ⟨a,o⟩
   have b:=h.out;rw[show 19-a=(19-(a+1))+1 by omega]at b;unfold jb at b;generalize aD ny a=j at p b;by_cases c:(j.toList==s.toList)=true
   ·rw[if_pos c]at b;have f:=ab b;clear b;go_wp2;go_ret;refine⟨?_,k⟩;unfold jR;rw[l.out,<-f.out];rfl
   ·rw[if_neg c]at b;have f:=ab b;have B:(j.toList==s.toList)=false:=by simpa using c
    clear b c;go_wp2;go_round
    case rel=>exact⟨a+1,by omega,by omega,by go_num,f⟩
    case measure=>simp[intOf];omega
  ·obtain rfl:a=19:=by omega
   have f:=ab h.out;go_wp2_with fail;rw[DH];have q:=heap_alloc_new i (.cells cY 9);have y:=k.size;have m:Below w.heap.size w (i.alloc (.cells cY 9)):=k.alloc y _;generalize i.alloc (.cells cY 9)=x at q m⊢;obtain⟨A,u⟩:=ah (jb cY s 11 0);have n:=ab u;clear u;go_loop [26] (fun d=>∃a:Nat,a<=11/\d= .int .i64 a/\Hid (jb cY s (11-a) a=A)) (fun d=>11-(intOf d).toNat)
   case atStart=>exact⟨0,by omega,rfl,n⟩
   case round=>
    obtain⟨a,z,rfl,h⟩:=hrel;by_cases o:a<11
    ·have p:x.cell? ⟨i.heap.size,a,none⟩=some (.string (aD cY a)):=by rw[cell_of_row _ _ _ _ _ _ q];exact Ao ⟨a,o⟩
     have b:=h.out;rw[show 11-a=(11-(a+1))+1 by omega]at b;unfold jb at b;generalize aD cY a=j at p b;by_cases c:(j.toList==s.toList)=true
     ·rw[if_pos c]at b;have g:=ab b;clear b;go_wp2;go_ret;refine⟨?_,m⟩;unfold jR;rw[l.out,<-f.out,n.out,<-g.out];rfl
     ·rw[if_neg c]at b;have g:=ab b;have B:(j.toList==s.toList)=false:=by simpa using c
      clear b c;go_wp2;go_round
      case rel=>exact⟨a+1,by omega,by go_num,g⟩
      case measure=>simp[intOf];omega
    ·obtain rfl:a=11:=by omega
     have g:=ab h.out;go_wp2;go_ret;refine⟨?_,m⟩;unfold jR;rw[l.out,<-f.out,n.out,<-g.out];rfl
def FC:ByteArray:=⟨#[59]⟩
def IF:ByteArray:=⟨#[10]⟩
def vD:ByteArray:=⟨#[]⟩
def vE(kind:Int):Nat->Nat->ByteArray
 |0,_=>vD
 |f+1,k=>if jR (aD cL k)=kind then aD cL k else vE kind f (k+1)
def js(kind:Int):ByteArray:=if kind=5 then FC else if 10<=kind/\kind<32 then aD bj (kind-10).toNat else vE kind 30 0
def dV:Array Value:=#[.string ⟨#[43]⟩,.string ⟨#[45]⟩,.string ⟨#[42]⟩,.string ⟨#[47]⟩,.string ⟨#[47,47]⟩,.string ⟨#[37]⟩,.string ⟨#[38]⟩,.string ⟨#[124]⟩,.string ⟨#[126]⟩,.string ⟨#[60,60]⟩,.string ⟨#[62,62]⟩,.string ⟨#[46,46]⟩,.string ⟨#[61,61]⟩,.string ⟨#[126,61]⟩,.string ⟨#[60]⟩,.string ⟨#[60,61]⟩,.string ⟨#[62]⟩,.string ⟨#[62,61]⟩]
theorem Gf:∀k:Fin 18,dV[k.val]?=some (.string (aD dV k.val)):=by
 intro ⟨k,a⟩;rcases(show k=0\/k=1\/k=2\/k=3\/k=4\/k=5\/k=6\/k=7\/k=8\/k=9\/k=10\/k=11\/k=12\/k=13\/k=14\/k=15\/k=16\/k=17 by omega) with rfl|rfl|rfl|rfl|rfl|rfl|rfl|rfl|rfl|rfl|rfl|rfl|rfl|rfl|rfl|rfl|rfl|rfl;all_goals rfl
structure fV (w:World):Prop where
 word:∃tt fr,w.heap[0]?=some (.cells bj tt fr)
 mark:∃tt fr,w.heap[2]?=some (.cells cY tt fr)
 bin:∃tt fr,w.heap[3]?=some (.cells dV tt fr)
theorem fV.below{w d:World}{B:Nat}(h:fV w)(b:Below B w d)(a:w.heap.size<=B):fV d:=by
 obtain⟨⟨g,l,f⟩,⟨j,k,e⟩,⟨i,m,c⟩⟩:=h;exact⟨⟨g,l,(b.block _ (Nat.lt_of_lt_of_le (lt_of_block f) a)).trans f⟩,⟨j,k,(b.block _ (Nat.lt_of_lt_of_le (lt_of_block e) a)).trans e⟩,⟨i,m,(b.block _ (Nat.lt_of_lt_of_le (lt_of_block c) a)).trans c⟩⟩
def bR(kind:Int):ByteArray:=if kind=5 then FC else if kind=7 then IF else if 10<=kind/\kind<=31 then aD bj (kind-10).toNat else if 40<=kind/\kind<=50 then aD cY (kind-40).toNat else if 61<=kind/\kind<=78 then aD dV (kind-61).toNat else vD
theorem jc(kind:Int)(z: -9223372036854775808<=kind)(E:kind<=9223372036854775807)(w:World)(l:fV w):Calls Tryz.prog 123 #[.int .i64 kind] w fun e o=>e= .returned (.string (bR kind))/\o=w:=by
 obtain⟨⟨t,A,k⟩,⟨v,x,m⟩,⟨u,C,p⟩⟩:=l;unfold bR;by_cases c:kind=5
 ·subst c;go_in;go_wp2;go_ret;exact⟨rfl,rfl⟩
 by_cases d:kind=7
 ·subst d;go_in;go_wp2;go_ret;exact⟨rfl,rfl⟩
 rw[if_neg c,if_neg d];have y:(kind==5)=false:=by simp[c]
 have B:(kind==7)=false:=by simp[d]
 by_cases b:10<=kind/\kind<=31
 ·rw[if_pos b];obtain⟨a,g⟩:∃a:Nat,kind=10+(a:Int):=⟨(kind-10).toNat,by omega⟩;subst g;rw[show((10+(a:Int))-10).toNat=a by omega];have r:a<22:=by omega
  have j:w.cell? ⟨0,a,none⟩=some (.string (aD bj a)):=by rw[cell_of_row _ _ _ _ _ _ k];exact qS ⟨a,r⟩
  clear b c d;go_in;go_wp2;go_ret;exact⟨rfl,rfl⟩
 by_cases f:40<=kind/\kind<=50
 ·rw[if_neg b,if_pos f];obtain⟨a,g⟩:∃a:Nat,kind=40+(a:Int):=⟨(kind-40).toNat,by omega⟩;subst g;rw[show((40+(a:Int))-40).toNat=a by omega];have n:a<11:=by omega
  have j:w.cell? ⟨2,a,none⟩=some (.string (aD cY a)):=by rw[cell_of_row _ _ _ _ _ _ m];exact Ao ⟨a,n⟩
  clear b f c d;go_in;go_wp2;go_ret;exact⟨rfl,rfl⟩
 by_cases i:61<=kind/\kind<=78
 ·rw[if_neg b,if_neg f,if_pos i];obtain⟨a,g⟩:∃a:Nat,kind=61+(a:Int):=⟨(kind-61).toNat,by omega⟩;subst g;rw[show((61+(a:Int))-61).toNat=a by omega];have q:a<18:=by omega
  have j:w.cell? ⟨3,61+a-60-1,none⟩=some (.string (aD dV a)):=by rw[show 61+a-60-1=a by omega,cell_of_row _ _ _ _ _ _ p];exact Gf ⟨a,q⟩
  clear b f i c d;go_in;go_wp2;go_ret;exact⟨rfl,rfl⟩
 rw[if_neg b,if_neg f,if_neg i];rcases(show kind<10\/(31<kind/\kind<40)\/(50<kind/\kind<=60)\/78<kind by omega) with h|⟨h,s⟩|⟨h,s⟩|h;all_goals
  clear b f i c d;go_in;go_wp2;go_ret;exact⟨rfl,rfl⟩
theorem vF(kind:Int)(w:World):Calls Tryz.prog 148 #[.int .i64 kind] w fun e c=>e= .returned (.string (js kind))/\Below w.heap.size w c:=by
 unfold js;by_cases p:kind=5
 ·subst p;go_in;go_wp2;go_ret;exact⟨rfl,Below.refl _ _⟩
 rw[if_neg p];have Q:(kind==5)=false:=by simp[p]
 by_cases v:10<=kind/\kind<32
 ·rw[if_pos v];obtain⟨a,A⟩:∃a:Nat,kind=10+(a:Int):=⟨(kind-10).toNat,by omega⟩;subst A;have F:a<22:=by omega
  have G:((10+(a:Int))-10).toNat=a:=by omega
  rw[G];have l:Below w.heap.size w (w.alloc (.cells bj 9)):=(Below.refl _ w).alloc (Nat.le_refl _) _;have t:(w.alloc (.cells bj 9)).cell? ⟨w.heap.size,a,none⟩=some (.string (aD bj a)):=by rw[cell_of_row _ _ _ _ _ _ (heap_alloc_new w _)];exact qS ⟨a,F⟩
  obtain⟨b,g⟩:∃b,b=w.alloc (.cells bj 9):=⟨_,rfl⟩;rw[<-g]at t l;have r:Calls Tryz.prog 145 #[] w fun e c=>e= .returned (.slice (some ⟨w.heap.size,0,none⟩) 22 22)/\b=c:=by rw[g];exact(ic w).mono fun e c f=>⟨f.1,f.2.symm⟩
  clear g;go_in;go_wp2_with (go_at_call 145;refine r.mono ?_;rintro e C ⟨rfl,rfl⟩);go_ret;exact⟨rfl,l⟩
 ·rw[if_neg v];obtain⟨b,g⟩:∃b,b=w.alloc (.cells bj 9):=⟨_,rfl⟩;have r:Calls Tryz.prog 145 #[] w fun e c=>e= .returned (.slice (some ⟨w.heap.size,0,none⟩) 22 22)/\b=c:=by rw[g];exact(ic w).mono fun e c f=>⟨f.1,f.2.symm⟩
  have l:Below w.heap.size w b:=by rw[g];exact(Below.refl _ w).alloc (Nat.le_refl _) _
  clear g;obtain⟨h,n⟩:∃h,h=b.alloc (.cells cL 9):=⟨_,rfl⟩;have M:Calls Tryz.prog 86 #[] b fun e c=>e= .returned (.slice (some ⟨b.heap.size,0,none⟩) 30 30)/\h=c:=by rw[n];exact(lR b).mono fun e c f=>⟨f.1,f.2.symm⟩
  have y:h.heap[b.heap.size]?=some (.cells cL 9 (0,0)):=by rw[n];exact heap_alloc_new b _
  have B:Below b.heap.size b h:=by rw[n];exact(Below.refl _ b).alloc (Nat.le_refl _) _
  have R:b.heap.size<h.heap.size:=lt_of_block y;clear n;obtain⟨O,q⟩:=ah (vE kind 30 0);rw[q];have N:=ab q;clear q;have H:=l.size;rcases(show ¬10<=kind\/(10<=kind/\¬kind<10+22) by omega) with J|⟨T,J⟩;all_goals
   go_in;go_wp2_with (first|(go_at_call 145;refine r.mono ?_;rintro e C ⟨rfl,rfl⟩)|(go_at_call 86;refine M.mono ?_;rintro e S ⟨rfl,rfl⟩));go_loopw [25] (fun u wr=>∃a:Nat,a<=30/\u= .int .i64 a/\Hid (vE kind (30-a) a=O)/\wr.heap[b.heap.size]?=some (.cells cL 9 (0,0))/\Below w.heap.size w wr) (fun u _=>30-(intOf u).toNat)
   case atStart=>exact⟨0,by omega,rfl,N,y,l.trans (B.mono H)⟩
   case round=>
    obtain⟨a,A,rfl,z,s,m⟩:=hrel;have x:=m.size;by_cases K:a<30
    ·have t:wr.cell? ⟨b.heap.size,a,none⟩=some (.string (aD cL a)):=by rw[cell_of_row _ _ _ _ _ _ s];exact Ap ⟨a,K⟩
     have d:=z.out;rw[show 30-a=(30-(a+1))+1 by omega]at d;unfold vE at d;have E:b.heap.size<wr.heap.size:=lt_of_block s;generalize aD cL a=j at t d;by_cases i:jR j=kind
     ·rw[if_pos i]at d;have k:=ab d;have L:(jR j==kind)=true:=by simp[i]
      clear d i;go_wp2_with (go_at_call 87;refine(jr j _).mono ?_;rintro e I ⟨rfl,o⟩);go_ret;exact⟨by rw[<-k.out];rfl,m.trans (o.mono x)⟩
     ·rw[if_neg i]at d;have k:=ab d;have L:(jR j==kind)=false:=by simp[i]
      clear d i;go_wp2_with (go_at_call 87;refine(jr j _).mono ?_;rintro e I ⟨rfl,o⟩);go_roundw
      case rel=>exact⟨a+1,by omega,by go_num,k,(o.block _ E).trans s,m.trans (o.mono x)⟩
      case measure=>simp[intOf];omega
    ·obtain rfl:a=30:=by omega
     have k:=ab z.out;go_wp2;go_ret;exact⟨by rw[<-k.out];rfl,m⟩
end Go.Proofs.YtcbmoiabehpliaaGreatDoor
namespace Go.Proofs.YtcbmoiabehpliaaGreatDoor
open Go.RowKit Go.Maps Go.WideMaps
theorem lS(c:Int)(w:World):Calls Tryz.prog 83 #[.int .u8 c] w fun e d=>e= .returned (.bool (aG c))/\w=d:=by
 rcases(show c<48\/57<c\/(48<=c/\c<=57) by omega) with h|h|⟨f,a⟩
 ·have e:aG c=false:=by simp[aG];omega
  rw[e];clear e;have b:¬48<=c:=by omega
  go_in;go_wp2;go_ret;exact⟨rfl,rfl⟩
 ·have e:aG c=false:=by simp[aG];omega
  rw[e];clear e;have b:¬c<=57:=by omega
  have a:48<=c:=by omega
  go_in;go_wp2;go_ret;exact⟨rfl,rfl⟩
 ·have e:aG c=true:=by simp[aG];omega
  rw[e];clear e;go_in;go_wp2;go_ret;exact⟨rfl,rfl⟩
theorem eG(c:Int)(w:World):Calls Tryz.prog 81 #[.int .u8 c] w fun e j=>e= .returned (.bool (aC c))/\w=j:=by
 rcases(show(97<=c/\c<=122)\/(65<=c/\c<=90)\/c=95\/c<65\/(90<c/\c<97/\c≠95)\/122<c by omega) with⟨f,d⟩|⟨f,d⟩|rfl|h|⟨f,d,k⟩|h
 ·have e:aC c=true:=by simp[aC];omega
  rw[e];clear e;go_in;go_wp2;go_ret;exact⟨rfl,rfl⟩
 ·have e:aC c=true:=by simp[aC];omega
  rw[e];clear e;have a:¬97<=c:=by omega
  go_in;go_wp2;go_ret;exact⟨rfl,rfl⟩
 ·go_in;go_wp2;go_ret;exact⟨rfl,rfl⟩
 ·have e:aC c=false:=by simp[aC];omega
  rw[e];clear e;have a:¬97<=c:=by omega
  have b:¬65<=c:=by omega
  have g:(c==95)=false:=by simp;omega
  go_in;go_wp2;go_ret;exact⟨rfl,rfl⟩
 ·have e:aC c=false:=by simp[aC];omega
  rw[e];clear e;have a:¬97<=c:=by omega
  have b:65<=c:=by omega
  have i:¬c<=90:=by omega
  have g:(c==95)=false:=by simp;omega
  go_in;go_wp2;go_ret;exact⟨rfl,rfl⟩
 ·have e:aC c=false:=by simp[aC];omega
  rw[e];clear e;have a:97<=c:=by omega
  have b:¬c<=122:=by omega
  have i:65<=c:=by omega
  have l:¬c<=90:=by omega
  have g:(c==95)=false:=by simp;omega
  go_in;go_wp2;go_ret;exact⟨rfl,rfl⟩
def lk(s:ByteArray)(p:Nat):Int:=if p<s.size then ae s p else 0
theorem xB(s:ByteArray)(p:Nat):0<=lk s p/\lk s p<256:=by
 unfold lk;split
 ·rename_i a;exact dj a
 ·omega
theorem DI(s:ByteArray)(p:Nat):aC (lk s p)=aC (ae s p):=by
 unfold lk;split
 ·rfl
 ·rename_i a;rw[aX a];decide
theorem eS(s:ByteArray)(p:Nat):aG (lk s p)=aG (ae s p):=by
 unfold lk;split
 ·rfl
 ·rename_i a;rw[aX a];decide
theorem nz(s:ByteArray)(f:s.size<=1100000)(p:Nat)(w:World):Calls Tryz.prog 80 #[.string s,.int .i64 p] w fun e c=>e= .returned (.int .u8 (lk s p))/\w=c:=by
 unfold lk;by_cases a:p<s.size
 ·rw[if_pos a];have b:=fun w=>aI a w;generalize ae s p=d at b;go_in;go_wp2;go_ret;exact⟨rfl,rfl⟩
 ·rw[if_neg a];have g:¬(p:Int)<(s.size:Int):=by omega
  go_in;go_wp2;go_ret;exact⟨rfl,rfl⟩
def eo(s:ByteArray):Nat->Nat->Nat
 |0,p=>p
 |f+1,p=>if aC (ae s p)=true\/aG (ae s p)=true then eo s f (p+1) else p
theorem nD{s:ByteArray}{p:Nat}(h:¬p<s.size):¬(aC (ae s p)=true\/aG (ae s p)=true):=by
 rw[aX h];decide
theorem jt(s:ByteArray):∀(f p:Nat),p<=s.size->p<=eo s f p/\eo s f p<=s.size
 |0,p,h=>⟨Nat.le_refl _,h⟩
 |f+1,p,h=>by
  unfold eo;split
  ·rename_i a;have b:p<s.size:=by
    rcases Nat.lt_or_ge p s.size with h1|h1
    ·exact h1
    ·exact absurd a (nD (by omega))
   have:=jt s f (p+1) (by omega);omega
  ·exact⟨Nat.le_refl _,h⟩
theorem lT(s:ByteArray)(B:s.size<=1100000)(p:Nat)(y:p<=s.size)(w:World):Calls Tryz.prog 156 #[.string s,.int .i64 p] w fun e g=>e= .returned (.int .i64 (eo s (s.size+1) p))/\g=w:=by
 obtain⟨v,n⟩:=ah (eo s (s.size+1) p);rw[n];have t:=ab n;clear n;go_in;go_wp2_with fail;go_loop [1] (fun o=>∃(b c:Nat),b<=s.size/\s.size<b+c/\o= .int .i64 b/\Hid (eo s c b=v)) (fun o=>s.size-(intOf o).toNat)
 case atStart=>exact⟨p,s.size+1,y,by omega,rfl,t⟩
 case round=>
  obtain⟨b,c,z,C,rfl,r⟩:=hrel;obtain⟨c,rfl⟩:∃u,c=u+1:=⟨c-1,by omega⟩;have a:=r.out;unfold eo at a;by_cases q:b<s.size
  ·have x:=fun w=>aI q w;generalize ae s b=f at x a;have i:=fun w=>dK f w;have k:=fun w=>cG f w;by_cases h:aC f=true
   ·rw[if_pos (.inl h)]at a;have d:=ab a;clear a;rw[h]at i;clear h;go_wp2_with (go_at_call 115;refine(i _).mono ?_;rintro e g ⟨rfl,rfl⟩);go_round
    case rel=>exact⟨b+1,c,by omega,by omega,by go_num,d⟩
    case measure=>simp[intOf];omega
   ·have l:aC f=false:=by simpa using h
    rw[l]at i;by_cases j:aG f=true
    ·rw[if_pos (.inr j)]at a;have d:=ab a;clear a;rw[j]at k;clear h l j;go_wp2_with (first|(go_at_call 115;refine(i _).mono ?_;rintro e g ⟨rfl,rfl⟩)|(go_at_call 117;refine(k _).mono ?_;rintro e g ⟨rfl,rfl⟩));go_round
     case rel=>exact⟨b+1,c,by omega,by omega,by go_num,d⟩
     case measure=>simp[intOf];omega
    ·have m:aG f=false:=by simpa using j
     rw[if_neg (by rw[l,m];simp)]at a;have d:=ab a;clear a;rw[m]at k;clear h l j m;go_wp2_with (first|(go_at_call 115;refine(i _).mono ?_;rintro e g ⟨rfl,rfl⟩)|(go_at_call 117;refine(k _).mono ?_;rintro e g ⟨rfl,rfl⟩));go_ret;exact⟨by rw[<-d.out];rfl,rfl⟩
  ·rw[if_neg (nD q)]at a;have d:=ab a;clear a;have A:¬(b:Int)<(s.size:Int):=by omega
   go_wp2;go_ret;exact⟨by rw[<-d.out];rfl,rfl⟩
def gS(s:ByteArray):Bool:=(jb bj s 22 0).isSome
theorem ju(k:Nat):aD bj k=dy k:=rfl
theorem ie(V:Array Value)(s:ByteArray):∀(f k j:Nat),jb V s f k=some j->k<=j/\j<k+f/\(aD V j).toList=s.toList
 |0,k,j,h=>by simp[jb]at h
 |f+1,k,j,h=>by
  unfold jb at h;split at h
  ·rename_i a;obtain rfl:=Option.some.inj h;exact⟨Nat.le_refl _,by omega,by simpa using a⟩
  ·have:=ie V s f (k+1) j h;exact⟨by omega,by omega,this.2.2⟩
theorem sU(V:Array Value)(s:ByteArray):∀(f k:Nat),jb V s f k=none->∀j,k<=j->j<k+f->(aD V j).toList≠s.toList
 |0,k,h=>fun j a b=>by omega
 |f+1,k,h=>fun j a b=>by
  unfold jb at h;split at h
  ·cases h
  ·rename_i c;rcases Nat.eq_or_lt_of_le a with rfl|h3
   ·simpa using c
   ·exact sU V s f (k+1) h j h3 (by omega)
theorem nE{H:Type}:∀n,IsMap (kV (H:=H) n)
 |0=>isMap_empty
 |n+1=>(nE n).put _ _
theorem xC{H:Type}(l:List UInt8):∀n,(∀j,j<n->(dy j).data.toList≠l)->Maps.has (kV (H:=H) n) (.string l)=false
 |0,_=>rfl
 |n+1,h=>by
  show Maps.has ((kV n).put _ _) _=false;rw[has_put_other (by intro e;exact h n (by omega) (by injection e with e;exact e.symm))];exact xC l n fun j a=>h j (by omega)
theorem xD{H:Type}(l:List UInt8)(j:Nat)(b:(dy j).data.toList=l):∀n,j<n->Maps.has (kV (H:=H) n) (.string l)=true
 |0,h=>by omega
 |n+1,h=>by
  show Maps.has ((kV n).put _ _) _=true;by_cases e:(dy n).data.toList=l
  ·rw[e];exact has_put_same (nE n) (by trivial) _
  ·rw[has_put_other (by intro a;injection a with a;exact e a.symm)];rcases Nat.eq_or_lt_of_le (Nat.le_of_lt_succ h) with rfl|h3
   ·exact absurd b e
   ·exact xD l j b n h3
theorem sV{H:Type}(s:ByteArray):Maps.has (kV (H:=H) 22) (.string s.data.toList)=gS s:=by
 unfold gS;cases h:jb bj s 22 0 with
 |none=>
  have:=sU bj s 22 0 h;exact xC _ 22 fun d f c=>this d (Nat.zero_le _) (by omega) (by rw[ju,ByteArray.toList_eq,ByteArray.toList_eq];exact c)
 |some a=>
  obtain⟨e,g,b⟩:=ie bj s 22 0 a h;rw[ju,ByteArray.toList_eq,ByteArray.toList_eq]at b;exact xD _ a b 22 (by omega)
theorem DJ:∀i j:Fin 22,i≠j->(dy i.val).data.toList≠(dy j.val).data.toList:=by decide+kernel
theorem qk{H:Type}(j:Nat):∀n,n<=22->j<n->(kV (H:=H) n).atKey (.string (dy j).data.toList) (.lit (.int .i64 0))= .lit (.int .i64 (10+(j:Int)))
 |0,_,h=>by omega
 |n+1,c,h=>by
  show((kV n).put _ _).atKey _ _=_;by_cases e:n=j
  ·subst e;exact atKey_put_same (nE n) (by trivial) _ _
  ·rw[atKey_put_other (by intro b;injection b with b;exact DJ ⟨j,by omega⟩ ⟨n,by omega⟩ (by intro a;injection a with a;exact e a.symm) b)];exact qk j n (by omega) (by omega)
theorem IG{H:Type}(k:Fin 22):(kV (H:=H) 22).atKey (.string (dy k.val).data.toList) (.lit (.int .i64 0))= .lit (.int .i64 (10+(k.val:Int))):=qk k.val 22 (by omega) k.isLt
theorem DK{H:Type}(s:ByteArray)(k:Nat)(h:jb bj s 22 0=some k):(kV (H:=H) 22).atKey (.string s.data.toList) (.lit (.int .i64 0))= .lit (.int .i64 (10+(k:Int))):=by
 obtain⟨c,b,a⟩:=ie bj s 22 0 k h;rw[ju,ByteArray.toList_eq,ByteArray.toList_eq]at a;rw[<-a];exact IG ⟨k,by omega⟩
theorem vG{H:Type}(s:ByteArray)(x:s.size<=1100000)(b:Nat)(w:World)(q:w.ownsMap Tryz.prog 9 (plainElem (H:=H) Tryz.prog 3) b 22 (kV 22)):Calls Tryz.prog 211 #[.string s,.map (some b)] w fun e c=>e= .returned (.bool (decide (aC (ae s 0)=true/\eo s (s.size+1) 0=s.size/\gS s=false)))/\c=w:=by
 have r:keyOf Tryz.prog 9 (.string s)=some (.string s.data.toList):=keyOf_string_mk Tryz.underlying9 (by unfold maxLen;omega);by_cases m:0<s.size
 ·have p:(s.toList==[])=false:=by
   have:s.toList.length=s.size:=by rw[ByteArray.toList_eq];simp
   cases hs:s.toList with
   |nil=>rw[hs]at this;simp at this;omega
   |cons B C=>rfl
  have t:∀w,(Instr.index 9 (.string s) (.int .i64 0)).run Tryz.prog w= .ok (.int .u8 (ae s 0)) w:=fun w=>aI m w;have d:=fun w=>dK (ae s 0) w;have v:=jt s (s.size+1) 0 (by omega);have h:=fun w=>lT s x 0 (by omega) w;generalize ae s 0=g at t d;generalize eo s (s.size+1) 0=i at h v;by_cases f:aC g=true
  ·rw[f]at d;by_cases o:i=s.size
   ·subst o;have y:¬(s.size:Int)<(s.size:Int):=by omega
    obtain⟨k,j⟩:=ah (gS s);have u:Maps.has (kV (H:=H) 22) (.string s.data.toList)=k:=by rw[sV,j]
    have a:decide (aC g=true/\s.size=s.size/\gS s=false)=!k:=by rw[f,j];cases k<;>simp
    rw[a];clear a j f;go_in;go_wp2_with (first|(go_at_call 115;refine(d _).mono ?_;rintro e c ⟨rfl,rfl⟩)|(go_at_call 156;refine(h _).mono ?_;rintro e c ⟨rfl,rfl⟩)|(at_lookup;refine wpList_lookup_own_ok_int _ rfl _ _ 82 rfl 9 3 .i64 DF Tryz.underlying82 Tryz.underlying3 (by kernel_rfl) b 22 _ rfl q _ _ rfl r ?_;intro A E z;rw[u]));go_ret;exact⟨rfl,rfl⟩
   ·have y:(i:Int)<(s.size:Int):=by omega
    have a:decide (aC g=true/\i=s.size/\gS s=false)=false:=by simp[o]
    rw[a];clear a f;go_in;go_wp2_with (first|(go_at_call 115;refine(d _).mono ?_;rintro e c ⟨rfl,rfl⟩)|(go_at_call 156;refine(h _).mono ?_;rintro e c ⟨rfl,rfl⟩));go_ret;exact⟨rfl,rfl⟩
  ·have l:aC g=false:=by simpa using f
   rw[l]at d;have a:decide (aC g=true/\i=s.size/\gS s=false)=false:=by simp[l]
   rw[a];clear a f l;go_in;go_wp2_with (first|(go_at_call 115;refine(d _).mono ?_;rintro e c ⟨rfl,rfl⟩)|(go_at_call 156;refine(h _).mono ?_;rintro e c ⟨rfl,rfl⟩));go_ret;exact⟨rfl,rfl⟩
 ·have n:s.toList=[]:=by
   have:s.toList.length=s.size:=by rw[ByteArray.toList_eq];simp
   exact List.length_eq_zero_iff.1 (by omega)
  have p:(s.toList==[])=true:=by rw[n];rfl
  have a:decide (aC (ae s 0)=true/\eo s (s.size+1) 0=s.size/\gS s=false)=false:=by rw[aX m];simp[aC]
  rw[a];clear a n;go_in;go_wp2;go_ret;exact⟨rfl,rfl⟩
def FD(s:ByteArray)(p:Nat):Value:=
 match jb bj (s.extract p (eo s (s.size+1) p)) 22 0 with
 |some a=> .agg #[.int .i64 (10+(a:Int)),.int .i64 p,.int .i64 (eo s (s.size+1) p),.int .i64 0,.int .i64 0,.string ⟨#[]⟩]
 |none=> .agg #[.int .i64 1,.int .i64 p,.int .i64 (eo s (s.size+1) p),.int .i64 0,.int .i64 0,.string (s.extract p (eo s (s.size+1) p))]
theorem vH(s:ByteArray)(a3:s.size<=1100000)(p:Nat)(S:p<=s.size)(w:World):Calls Tryz.prog 82 #[.string s,.agg #[.int .i64 0,.int .i64 p,.int .i64 0,.int .i64 0,.int .i64 0,.string ⟨#[]⟩]] w fun e f=>e= .returned (.tuple #[FD s p,.int .i64 (-1)])/\Below w.heap.size w f:=by
 unfold FD;obtain⟨N,J⟩:=ah (eo s (s.size+1) p);have a0:=jt s (s.size+1) p S;rw[J]at a0⊢;have V:=ab J;clear J;obtain⟨av,H⟩:=ah (jb bj (s.extract p N) 22 0);rw[H];have a5:=ab H;clear H;have E:aO w.heap.size ((w.alloc (.cells #[.int .i64 0,.int .i64 p,.int .i64 0,.int .i64 0,.int .i64 0,.string ⟨#[]⟩] 45)).alloc (.cells #[.int .i64 0,.int .i64 0,.int .i64 0,.int .i64 0,.int .i64 0,.string ⟨#[]⟩] 45)) 0 p 0 0 0 ⟨#[]⟩:=(Below.heap_alloc _ _ _ (by simp)).trans (heap_alloc_new w _);have z:aO (w.heap.size+1) ((w.alloc (.cells #[.int .i64 0,.int .i64 p,.int .i64 0,.int .i64 0,.int .i64 0,.string ⟨#[]⟩] 45)).alloc (.cells #[.int .i64 0,.int .i64 0,.int .i64 0,.int .i64 0,.int .i64 0,.string ⟨#[]⟩] 45)) 0 0 0 0 0 ⟨#[]⟩:=by
  have:=heap_alloc_new (w.alloc (.cells #[.int .i64 0,.int .i64 p,.int .i64 0,.int .i64 0,.int .i64 0,.string ⟨#[]⟩] 45)) (.cells #[.int .i64 0,.int .i64 0,.int .i64 0,.int .i64 0,.int .i64 0,.string ⟨#[]⟩] 45);rw[World.size_alloc]at this;exact this
 have K:Below w.heap.size w ((w.alloc (.cells #[.int .i64 0,.int .i64 p,.int .i64 0,.int .i64 0,.int .i64 0,.string ⟨#[]⟩] 45)).alloc (.cells #[.int .i64 0,.int .i64 0,.int .i64 0,.int .i64 0,.int .i64 0,.string ⟨#[]⟩] 45)):=(((Below.refl _ w).alloc (Nat.le_refl _) _).alloc (by simp) _);go_in;go_wp2_with fail;generalize (w.alloc (.cells #[.int .i64 0,.int .i64 p,.int .i64 0,.int .i64 0,.int .i64 0,.string ⟨#[]⟩] 45)).alloc (.cells #[.int .i64 0,.int .i64 0,.int .i64 0,.int .i64 0,.int .i64 0,.string ⟨#[]⟩] 45)=q at E z K;have bo:w.heap.size+1<q.heap.size:=lt_of_block z;go_loop [6] (fun l=>∃(b h:Nat),b<=s.size/\s.size<b+h/\l= .int .i64 b/\Hid (eo s h b=N)) (fun l=>s.size-(intOf l).toNat)
 case atStart=>exact⟨p,s.size+1,S,by omega,rfl,V⟩
 case round=>
  obtain⟨b,h,bn,bl,rfl,t⟩:=hrel;obtain⟨h,rfl⟩:∃ap,h=ap+1:=⟨h-1,by omega⟩;have c:=t.out;unfold eo at c;have u:=fun w=>nz s a3 b w;have g:=fun w=>eG (lk s b) w;have j:=fun w=>lS (lk s b) w;have i:aC (ae s b)=true\/aG (ae s b)=true->b<s.size:=by
   intro ao;rcases Nat.lt_or_ge b s.size with h1|h1
   ·exact h1
   ·exact absurd ao (nD (by omega))
  rw[DI]at g;rw[eS]at j;generalize lk s b=bh at u g j;generalize ae s b=B at c g j i;by_cases h1:aC B=true
  ·rw[if_pos (.inl h1)]at c;have o:=ab c;have a4:=i (.inl h1);clear c i;rw[h1]at g;clear h1;go_wp2_with (first|(go_at_call 80;refine(u _).mono ?_;rintro e f ⟨rfl,rfl⟩)|(go_at_call 81;refine(g _).mono ?_;rintro e f ⟨rfl,rfl⟩));go_round
   case rel=>exact⟨b+1,h,by omega,by omega,by go_num,o⟩
   case measure=>simp[intOf];omega
  ·have A:aC B=false:=by simpa using h1
   rw[A]at g;by_cases m:aG B=true
   ·rw[if_pos (.inr m)]at c;have o:=ab c;have a4:=i (.inr m);clear c i;rw[m]at j;clear h1 A m;go_wp2_with (first|(go_at_call 80;refine(u _).mono ?_;rintro e f ⟨rfl,rfl⟩)|(go_at_call 81;refine(g _).mono ?_;rintro e f ⟨rfl,rfl⟩)|(go_at_call 83;refine(j _).mono ?_;rintro e f ⟨rfl,rfl⟩));go_round
    case rel=>exact⟨b+1,h,by omega,by omega,by go_num,o⟩
    case measure=>simp[intOf];omega
   ·have I:aG B=false:=by simpa using m
    rw[if_neg (by rw[A,I];simp)]at c;rw[I]at j;clear h1 A m I i t V;subst c;obtain⟨Y,ak,M,X,Q,al,R⟩:=aw E;have r:=(E.setKind 1).setTo (b:Int);have y:=(z.other (a:=⟨w.heap.size,0,none⟩) (by simp) (.int .i64 1)).other (a:=⟨w.heap.size,2,none⟩) (by simp) (.int .i64 (b:Int));have C:Below w.heap.size w ((q.setCell ⟨w.heap.size,0,none⟩ (.int .i64 1)).setCell ⟨w.heap.size,2,none⟩ (.int .i64 (b:Int))):=(K.setCell (by simp) _).setCell (by simp) _;obtain⟨n,G⟩:=ah ((q.setCell ⟨w.heap.size,0,none⟩ (.int .i64 1)).setCell ⟨w.heap.size,2,none⟩ (.int .i64 (b:Int)));have a6:((q.setCell ⟨w.heap.size,0,none⟩ (.int .i64 1)).setCell ⟨w.heap.size,2,none⟩ (.int .i64 (b:Int))).cell? ⟨w.heap.size,1,none⟩=some (.int .i64 p):=(aw r).2.1;rw[G]at r y C;have a1:=ab G;clear G;go_wp2_with (first|(go_at_call 80;refine(u _).mono ?_;rintro e f ⟨rfl,rfl⟩)|(go_at_call 81;refine(g _).mono ?_;rintro e f ⟨rfl,rfl⟩)|(go_at_call 83;refine(j _).mono ?_;rintro e f ⟨rfl,rfl⟩));rw[show(q.setCell ⟨w.heap.size,0,none⟩ (.int .i64 1)).setCell ⟨w.heap.size,2,none⟩ (.int .i64 (b:Int))=n from a1.out];refine(ic n).mono ?_;rintro e k ⟨rfl,x⟩;have an:aO w.heap.size k 1 p b 0 0 ⟨#[]⟩:=by rw[x];exact(Below.heap_alloc _ _ _ (lt_of_block r)).trans r
    have T:aO (w.heap.size+1) k 0 0 0 0 0 ⟨#[]⟩:=by rw[x];exact(Below.heap_alloc _ _ _ (lt_of_block y)).trans y
    have O:Below w.heap.size w k:=by rw[x];exact C.alloc C.size _
    have a2:k.heap[n.heap.size]?=some (.cells bj 9 (0,0)):=by rw[x];exact heap_alloc_new n _
    clear x r y C E z K a6 Y ak M X Q al R u g j;go_wp2_with fail;obtain⟨Y,ak,M,X,Q,al,R⟩:=aw an;obtain⟨z0,af,Z,U,am,L,bb⟩:=aw T;have a9:w.heap.size<k.heap.size:=lt_of_block an;have a7:w.heap.size+1<k.heap.size:=lt_of_block T;go_loop [34] (fun l=>∃d:Nat,d<=22/\l= .int .i64 d/\Hid (jb bj (s.extract p b) (22-d) d=av)) (fun l=>22-(intOf l).toNat)
    case atStart=>exact⟨0,by omega,rfl,a5⟩
    case round=>
     obtain⟨d,bk,rfl,t⟩:=hrel;by_cases i:d<22
     ·have ar:k.cell? ⟨n.heap.size,d,none⟩=some (.string (aD bj d)):=by rw[cell_of_row _ _ _ _ _ _ a2];exact qS ⟨d,i⟩
      have c:=t.out;rw[show 22-d=(22-(d+1))+1 by omega]at c;unfold jb at c;generalize aD bj d=W at ar c;by_cases F:(W.toList==(s.extract p b).toList)=true
      ·rw[if_pos F]at c;subst c;go_wp2;refine bodyPost_ret (v:= .tuple #[.agg #[.int .i64 (10+(d:Int)),.int .i64 p,.int .i64 b,.int .i64 0,.int .i64 0,.string ⟨#[]⟩],.int .i64 (-1)]) (by simp[results,Tryz.results82,go_sem,z0,af,Z,U,am,L]) rfl ⟨rfl,?_⟩
       iterate 7 refine Below.setCell ?_ (by simp) _
       exact O
      ·rw[if_neg F]at c;have o:=ab c;have a8:(W.toList==(s.extract p b).toList)=false:=by simpa using F
       clear c F;go_wp2;go_round
       case rel=>exact⟨d+1,by omega,by go_num,o⟩
       case measure=>simp[intOf];omega
     ·obtain rfl:d=22:=by omega
      have c:=t.out;simp only[Nat.sub_self,jb]at c;subst c;go_wp2;refine bodyPost_ret (v:= .tuple #[.agg #[.int .i64 1,.int .i64 p,.int .i64 b,.int .i64 0,.int .i64 0,.string (s.extract p b)],.int .i64 (-1)]) (by simp[results,Tryz.results82,go_sem,z0,af,Z,U,am,L]) rfl ⟨rfl,?_⟩
      iterate 7 refine Below.setCell ?_ (by simp) _
      exact O
theorem vI{c:Int}(h:aC c=true):65<=c/\c<=122:=by simp[aC]at h;omega
theorem eQ{c:Int}(h:aG c=true):48<=c/\c<=57:=by simpa [aG] using h
theorem Aq(s:ByteArray)(p:Nat):∃(k:Int) (x:ByteArray),FD s p= .agg #[.int .i64 k,.int .i64 p,.int .i64 (eo s (s.size+1) p),.int .i64 0,.int .i64 0,.string x]/\((k==1)=!(gS (s.extract p (eo s (s.size+1) p)))):=by
 unfold FD gS;cases h:jb bj (s.extract p (eo s (s.size+1) p)) 22 0 with
 |none=>exact⟨1,_,rfl,rfl⟩
 |some k=>exact⟨10+(k:Int),_,rfl,by simp;omega⟩
theorem lU(s:ByteArray)(E:s.size<=1100000)(p:Nat)(m:p<s.size)(d:aC (ae s p)=true)(w:World):Calls Tryz.prog 43 #[.string s,.int .i64 p] w fun e i=>e= .returned (.tuple #[FD s p,.int .i64 (-1)])/\Below w.heap.size w i:=by
 have l:=fun w=>aI m w;have b:=fun w=>eG (ae s p) w;have a:=fun w=>vH s E p (Nat.le_of_lt m) w;have q:=vI d;rw[d]at b;generalize ae s p=r at l b q;obtain⟨o,C,g,h⟩:=Aq s p;rw[g]at a⊢;generalize eo s (s.size+1) p=u at a h;have H:(r==10)=false:=by simp;omega
 clear d h g;have k:aO w.heap.size ((w.alloc (.cells #[.int .i64 0,.int .i64 0,.int .i64 0,.int .i64 0,.int .i64 0,.string ⟨#[]⟩] 45)).alloc (.cells #[.int .i64 0,.int .i64 p,.int .i64 0,.int .i64 0,.int .i64 0,.string ⟨#[]⟩] 45)) 0 0 0 0 0 ⟨#[]⟩:=(Below.heap_alloc _ _ _ (by simp)).trans (heap_alloc_new w _);have j:Below w.heap.size w ((w.alloc (.cells #[.int .i64 0,.int .i64 0,.int .i64 0,.int .i64 0,.int .i64 0,.string ⟨#[]⟩] 45)).alloc (.cells #[.int .i64 0,.int .i64 p,.int .i64 0,.int .i64 0,.int .i64 0,.string ⟨#[]⟩] 45)):=(((Below.refl _ w).alloc (Nat.le_refl _) _).alloc (by simp) _);go_in;go_wp2_with (first|(go_at_call 81;refine(b _).mono ?_;rintro e i ⟨rfl,rfl⟩));refine(a _).mono ?_;rintro e B ⟨rfl,c⟩;have f:=k.below c (by simp;omega);have x:=j.trans (c.mono (by simp;omega));clear c k j a b l;obtain⟨z0,z,A,y,t,n,F⟩:=aw f;have G:w.heap.size<B.heap.size:=lt_of_block f;go_wp2;refine bodyPost_ret (v:= .tuple #[.agg #[.int .i64 o,.int .i64 p,.int .i64 u,.int .i64 0,.int .i64 0,.string C],.int .i64 (-1)]) (by simp[results,Tryz.results43,go_sem,z0,z,A,y,t,n]) rfl ⟨rfl,?_⟩
 iterate 6 refine Below.setCell ?_ (by simp) _
 exact x
theorem lV(s:ByteArray):s.extract 0 s.size=s:=by
 simp
def fs(s:ByteArray):Bool:=decide (s.size<=40/\aC (ae s 0)=true/\eo s (s.size+1) 0=s.size/\gS s=false)
theorem eH(s:ByteArray)(v:s.size<=1100000)(w:World):Calls Tryz.prog 112 #[.string s] w fun e c=>e= .returned (.bool (fs s))/\Below w.heap.size w c:=by
 unfold fs;by_cases i:0<s.size
 ·have x:((s.size:Int)==0)=false:=by rw[beq_eq_false_iff_ne];omega
  by_cases o:s.size<=40
  ·have t:¬(40:Int)<(s.size:Int):=by omega
   have q:∀w,(Instr.index 9 (.string s) (.int .i64 0)).run Tryz.prog w= .ok (.int .u8 (ae s 0)) w:=fun w=>aI i w;have b:=fun w=>eG (ae s 0) w;by_cases a:aC (ae s 0)=true
   ·have f:∀w,Calls Tryz.prog 43 #[.string s,.int .i64 0] w fun e c=>e= .returned (.tuple #[FD s 0,.int .i64 (-1)])/\Below w.heap.size w c:=fun w=>lU s v 0 i a w;rw[a]at b;obtain⟨j,z,p,g⟩:=Aq s 0;rw[p]at f;generalize eo s (s.size+1) 0=h at f g;generalize ae s 0=m at q b a;have r:decide (s.size<=40/\aC m=true/\h=s.size/\gS s=false)=((j==1)&&((h:Int)==(s.size:Int))):=by
     by_cases n:h=s.size
     ·subst n;rw[lV]at g;rw[g,a];simp[o]
     ·simp[n];intro _;omega
    rw[r];clear r g p a;by_cases l:j=1
    ·subst l;go_in;go_wp2_with (first|(go_at_call 81;refine(b _).mono ?_;rintro e c ⟨rfl,rfl⟩)|(go_at_call 43;refine(f _).mono ?_;rintro e u ⟨rfl,d⟩));go_ret;exact⟨by simp,d.alloc d.size _⟩
    ·have y:(j==1)=false:=by simp[l]
     clear l;go_in;go_wp2_with (first|(go_at_call 81;refine(b _).mono ?_;rintro e c ⟨rfl,rfl⟩)|(go_at_call 43;refine(f _).mono ?_;rintro e u ⟨rfl,d⟩));go_ret;exact⟨by simp[y],d.alloc d.size _⟩
   ·have k:aC (ae s 0)=false:=by simpa using a
    rw[show decide (s.size<=40/\aC (ae s 0)=true/\eo s (s.size+1) 0=s.size/\gS s=false)=false by simp[k]];rw[k]at b;clear a k;generalize ae s 0=m at q b;go_in;go_wp2_with (first|(go_at_call 81;refine(b _).mono ?_;rintro e c ⟨rfl,rfl⟩));go_ret;exact⟨rfl,Below.refl _ _⟩
  ·have t:(40:Int)<(s.size:Int):=by omega
   rw[show decide (s.size<=40/\aC (ae s 0)=true/\eo s (s.size+1) 0=s.size/\gS s=false)=false by simp[o]];go_in;go_wp2;go_ret;exact⟨rfl,Below.refl _ _⟩
 ·have x:((s.size:Int)==0)=true:=by rw[beq_iff_eq];omega
  rw[show decide (s.size<=40/\aC (ae s 0)=true/\eo s (s.size+1) 0=s.size/\gS s=false)=false by rw[aX i];simp[aC]];go_in;go_wp2;go_ret;exact⟨rfl,Below.refl _ _⟩
end Go.Proofs.YtcbmoiabehpliaaGreatDoor
