import Derived.Test.YtiaechpcebhcdaaGreatDoorHYk03
set_option linter.all false
set_option maxRecDepth 100000
set_option maxHeartbeats 12800000
namespace Go.Proofs.YtiaechpcebhcdaaGreatDoor
open Go.RowKit Go.Maps Go.WideMaps
def ap2(k:Int):fH k=0\/fH k=1\/fH k=2\/fH k=3\/fH k=4\/fH k=5\/fH k=6:=by
 unfold fH
 (repeat' split)
 all_goals simp
def Hs(w:World)(b:Nat)(N:Nd)(vn x:Value)(y:Int)(hn:∃a n c,vn= .slice a n c)(h:ie w b N vn y x):
  Calls Tryz.prog 39 #[ig N.k b] w λe d=>e= .returned (jA (pi N (fH N.k)) (uL vn (fH N.k)) (.slice none 0 0))/\Below w.heap.size w d:=by
 obtain⟨z,H,A,rfl⟩:=hn;unfold ie at h;unfold ig;have G:=λw=>anH b w;have B:=λw=>asT b w;have C:=λw=>asF b w;have v:=λw=>jf b w;have E:=ah h;have F:b<w.heap.size+1:=O;have s:∀g i,Below w.heap.size w ((w.alloc g).alloc i).drew:=λg i=>bu (((ai _ w).alloc cJ g).alloc I i);have c:=λu=>au w b u _ _ _ h;have j:=c 0;have m:=c 1;have o:=c 2;have p:=c 3;have q:=c 6;have r:=c 7;clear c h;unfold jA;rcases ap2 N.k with hc|hc|hc|hc|hc|hc|hc;all_goals
  simp only[hc,exT,rL,pi,uL,dt,dI]at j m o p q r⊢;simp at j m o p q r;go_in;go_wp2_with (go_at_call 308;refine eE (v _) ?_);all_goals
   go_region_held3 (λd=>d.cell? ⟨b,0,none⟩=some (.int .i64 N.k)/\d.cell? ⟨b,1,none⟩=some (.int .i64 N.f)/\d.cell? ⟨b,2,none⟩=some (.int .i64 N.t)/\d.cell? ⟨b,3,none⟩=some (.int .i64 N.l)) (go_keep) (fail)
   go_wp2_with fail;all_goals exact aD (fE rfl _ _ w.heap.size _ _ _ _ rfl ((dG _ _ _ I).trans (ay w _)) Tryz.underlying100 rfl J) rfl ⟨by simp[*],s _ _⟩
