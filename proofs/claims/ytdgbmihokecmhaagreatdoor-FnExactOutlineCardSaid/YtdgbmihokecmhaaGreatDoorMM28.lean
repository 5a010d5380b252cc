import Derived.Test.YtdgbmihokecmhaaGreatDoorMM27
namespace Go.Proofs.YtdgbmihokecmhaaGreatDoor
open Go.RowKit Go.Maps Go.WideMaps
set_option linter.unusedVariables false
set_option linter.unusedSimpArgs false

/-- What the program asks of a node, but for its places, its lengths and where its kids stand. -/
def coreL (ns : List Nd) (N : Nd) : Bool := sameB (rowN N (cls N.k)) N && (ffB N N.ks.length (cls N.k) && kfB N (kinds ns N.ks))
theorem core1 (ns : List Nd) (N : Nd) (hk : N.k = 1) (h2 : N.nm.length ≤ 200) : coreL ns N = seB ns N := by
  have e1 : cls N.k = 6 := by rw [hk]; rfl
  have e3 : seB ns N = (sbB ns N N.ks.length 0 && bareB N false false false false) := by
    unfold seB
    rw [if_pos (by rw [hk]; rfl)]
    unfold stB
    rw [if_pos hk]
  have e2 : rowW N.k = some [(0, 1)] := by rw [hk]; rfl
  have e4 : mostN 1 = 1 := rfl
  have e5 : rkB N.k (kinds ns N.ks) = kmatch [(0, 1)] (kinds ns N.ks) := by unfold rkB; rw [e2]
  unfold coreL kfB
  rw [sameB_bare, e1, e3, if_neg (by decide), e5]
  simp only [ffB, txB, hk, e4]
  have hlen := kinds_len ns N.ks
  have hd := getD_kid ns N
  have hx := ex_all ns N
  have hs := sb_all ns N
  have he := en_all ns N
  have h0 := hs N.ks.length 0 (by omega)
  rw [← hlen] at h0
  rw [List.drop_zero, List.take_length] at h0
  rw [km_star, ← hlen, h0]
  have e9 : (kinds ns N.ks).all (ms 0) = (kinds ns N.ks).all statK := rfl
  rw [e9]
  generalize (kinds ns N.ks).all statK = z
  generalize bareB N false false false false = B
  cases B <;> cases z <;> rfl
theorem core2 (ns : List Nd) (N : Nd) (hk : N.k = 2) (h2 : N.nm.length ≤ 200) : coreL ns N = seB ns N := by
  have e1 : cls N.k = 0 := by rw [hk]; rfl
  have e3 : seB ns N = (bareB N false false false true && namedB N 1 200 && exB ns N N.ks.length 0) := by
    unfold seB
    rw [if_pos (by rw [hk]; rfl)]
    unfold stB
    rw [if_neg (by rw [hk]; decide), if_pos hk]
  have e2 : rowW N.k = some [(3, 1)] := by rw [hk]; rfl
  have e4 : mostN 2 = 200 := rfl
  have e5 : rkB N.k (kinds ns N.ks) = kmatch [(3, 1)] (kinds ns N.ks) := by unfold rkB; rw [e2]
  unfold coreL kfB
  rw [sameB_bare, e1, e3, if_neg (by decide), e5]
  simp only [ffB, txB, hk, e4]
  have hlen := kinds_len ns N.ks
  have hd := getD_kid ns N
  have hx := ex_all ns N
  have hs := sb_all ns N
  have he := en_all ns N
  have h0 := hx N.ks.length 0 (by omega)
  rw [← hlen] at h0
  rw [List.drop_zero, List.take_length] at h0
  rw [km_star, ← hlen, h0]
  have e9 : (kinds ns N.ks).all (ms 3) = (kinds ns N.ks).all exprK := rfl
  rw [e9]
  generalize (kinds ns N.ks).all exprK = z
  unfold namedB
  generalize bareB N false false false true = B
  generalize nmsB N.nm N.nm.length 0 = y
  generalize decide (1 ≤ (N.nm.length : Int) ∧ (N.nm.length : Int) ≤ 200) = u
  cases B <;> cases z <;> cases y <;> cases u <;> rfl
theorem core3 (ns : List Nd) (N : Nd) (hk : N.k = 3) (h2 : N.nm.length ≤ 200) : coreL ns N = seB ns N := by
  have e1 : cls N.k = 0 := by rw [hk]; rfl
  have e3 : seB ns N = (bareB N false false false true && namedB N 1 1 && ((N.ks.length : Int) == 1) && exB ns N 1 0) := by
    unfold seB
    rw [if_pos (by rw [hk]; rfl)]
    unfold stB
    rw [if_neg (by rw [hk]; decide), if_neg (by rw [hk]; decide), if_pos hk]
  have e2 : rowW N.k = some [(3, 0)] := by rw [hk]; rfl
  have e4 : mostN 3 = 1 := rfl
  have e5 : rkB N.k (kinds ns N.ks) = kmatch [(3, 0)] (kinds ns N.ks) := by unfold rkB; rw [e2]
  unfold coreL kfB
  rw [sameB_bare, e1, e3, if_neg (by decide), e5]
  simp only [ffB, txB, hk, e4]
  have hlen := kinds_len ns N.ks
  have hd := getD_kid ns N
  revert hlen hd
  generalize kinds ns N.ks = K
  intro hlen hd
  rcases K with _ | ⟨a, _ | ⟨q, r⟩⟩
  · have hl : N.ks.length = 0 := by rw [← hlen]; rfl
    simp [hl, exB, namedB, km_one, km_one0, km_nil, km_opt, km_opt0, ms] <;> grind
  · have hl : N.ks.length = 1 := by rw [← hlen]; rfl
    have k0 : kidK ns N 0 = a := hd 0 (by omega)
    simp [hl, exB, namedB, k0, km_one, km_one0, km_nil, km_opt, km_opt0, ms] <;> grind
  · have hl : N.ks.length = r.length + 2 := by rw [← hlen]; rfl
    have k0 : kidK ns N 0 = a := hd 0 (by omega)
    have k1 : kidK ns N 1 = q := hd 1 (by omega)
    simp [hl, exB, namedB, k0, k1, km_one, km_one0, km_nil, km_opt, km_opt0, ms] <;> grind
theorem core4 (ns : List Nd) (N : Nd) (hk : N.k = 4) (h2 : N.nm.length ≤ 200) : coreL ns N = seB ns N := by
  have e1 : cls N.k = 0 := by rw [hk]; rfl
  have e3 : seB ns N = (bareB N false false false true && namedB N 1 1 && ((N.ks.length : Int) == 1) && (kidK ns N 0 == 36)) := by
    unfold seB
    rw [if_pos (by rw [hk]; rfl)]
    unfold stB
    rw [if_neg (by rw [hk]; decide), if_neg (by rw [hk]; decide), if_neg (by rw [hk]; decide), if_pos hk]
  have e2 : rowW N.k = some [(8, 0)] := by rw [hk]; rfl
  have e4 : mostN 4 = 1 := rfl
  have e5 : rkB N.k (kinds ns N.ks) = kmatch [(8, 0)] (kinds ns N.ks) := by unfold rkB; rw [e2]
  unfold coreL kfB
  rw [sameB_bare, e1, e3, if_neg (by decide), e5]
  simp only [ffB, txB, hk, e4]
  have hlen := kinds_len ns N.ks
  have hd := getD_kid ns N
  revert hlen hd
  generalize kinds ns N.ks = K
  intro hlen hd
  rcases K with _ | ⟨a, _ | ⟨q, r⟩⟩
  · have hl : N.ks.length = 0 := by rw [← hlen]; rfl
    simp [hl, exB, namedB, km_one, km_one0, km_nil, km_opt, km_opt0, ms] <;> grind
  · have hl : N.ks.length = 1 := by rw [← hlen]; rfl
    have k0 : kidK ns N 0 = a := hd 0 (by omega)
    simp [hl, exB, namedB, k0, km_one, km_one0, km_nil, km_opt, km_opt0, ms] <;> grind
  · have hl : N.ks.length = r.length + 2 := by rw [← hlen]; rfl
    have k0 : kidK ns N 0 = a := hd 0 (by omega)
    have k1 : kidK ns N 1 = q := hd 1 (by omega)
    simp [hl, exB, namedB, k0, k1, km_one, km_one0, km_nil, km_opt, km_opt0, ms] <;> grind
theorem core6 (ns : List Nd) (N : Nd) (hk : N.k = 6) (h2 : N.nm.length ≤ 200) : coreL ns N = seB ns N := by
  have e1 : cls N.k = 6 := by rw [hk]; rfl
  have e3 : seB ns N = (bareB N false false false false && ((N.ks.length : Int) == 1) && (kidK ns N 0 == 34)) := by
    unfold seB
    rw [if_pos (by rw [hk]; rfl)]
    unfold stB
    rw [if_neg (by rw [hk]; decide), if_neg (by rw [hk]; decide), if_neg (by rw [hk]; decide), if_neg (by rw [hk]; decide), if_neg (by rw [hk]; decide), if_pos hk]
  have e2 : rowW N.k = some [(6, 0)] := by rw [hk]; rfl
  have e4 : mostN 6 = 1 := rfl
  have e5 : rkB N.k (kinds ns N.ks) = kmatch [(6, 0)] (kinds ns N.ks) := by unfold rkB; rw [e2]
  unfold coreL kfB
  rw [sameB_bare, e1, e3, if_neg (by decide), e5]
  simp only [ffB, txB, hk, e4]
  have hlen := kinds_len ns N.ks
  have hd := getD_kid ns N
  revert hlen hd
  generalize kinds ns N.ks = K
  intro hlen hd
  rcases K with _ | ⟨a, _ | ⟨q, r⟩⟩
  · have hl : N.ks.length = 0 := by rw [← hlen]; rfl
    simp [hl, exB, namedB, km_one, km_one0, km_nil, km_opt, km_opt0, ms] <;> grind
  · have hl : N.ks.length = 1 := by rw [← hlen]; rfl
    have k0 : kidK ns N 0 = a := hd 0 (by omega)
    simp [hl, exB, namedB, k0, km_one, km_one0, km_nil, km_opt, km_opt0, ms] <;> grind
  · have hl : N.ks.length = r.length + 2 := by rw [← hlen]; rfl
    have k0 : kidK ns N 0 = a := hd 0 (by omega)
    have k1 : kidK ns N 1 = q := hd 1 (by omega)
    simp [hl, exB, namedB, k0, k1, km_one, km_one0, km_nil, km_opt, km_opt0, ms] <;> grind
theorem core7 (ns : List Nd) (N : Nd) (hk : N.k = 7) (h2 : N.nm.length ≤ 200) : coreL ns N = seB ns N := by
  have e1 : cls N.k = 6 := by rw [hk]; rfl
  have e3 : seB ns N = (bareB N false false false false && (decide (2 ≤ N.ks.length ∧ N.ks.length ≤ 3) && (exB ns N 1 0 && (!(kidK ns N 1 != 1) && ((N.ks.length : Int) == 2 || (kidK ns N 2 == 1 || kidK ns N 2 == 7)))))) := by
    unfold seB
    rw [if_pos (by rw [hk]; rfl)]
    unfold stB
    rw [if_neg (by rw [hk]; decide), if_neg (by rw [hk]; decide), if_neg (by rw [hk]; decide), if_neg (by rw [hk]; decide), if_neg (by rw [hk]; decide), if_neg (by rw [hk]; decide), if_pos hk]
  have e2 : rowW N.k = some [(3, 0), (1, 0), (2, 2)] := by rw [hk]; rfl
  have e4 : mostN 7 = 1 := rfl
  have e5 : rkB N.k (kinds ns N.ks) = kmatch [(3, 0), (1, 0), (2, 2)] (kinds ns N.ks) := by unfold rkB; rw [e2]
  unfold coreL kfB
  rw [sameB_bare, e1, e3, if_neg (by decide), e5]
  simp only [ffB, txB, hk, e4]
  have hlen := kinds_len ns N.ks
  have hd := getD_kid ns N
  revert hlen hd
  generalize kinds ns N.ks = K
  intro hlen hd
  rcases K with _ | ⟨a, _ | ⟨b, _ | ⟨c, _ | ⟨q, r⟩⟩⟩⟩
  · have hl : N.ks.length = 0 := by rw [← hlen]; rfl
    simp [hl, exB, namedB, km_one, km_one0, km_nil, km_opt, km_opt0, ms] <;> grind
  · have hl : N.ks.length = 1 := by rw [← hlen]; rfl
    have k0 : kidK ns N 0 = a := hd 0 (by omega)
    simp [hl, exB, namedB, k0, km_one, km_one0, km_nil, km_opt, km_opt0, ms] <;> grind
  · have hl : N.ks.length = 2 := by rw [← hlen]; rfl
    have k0 : kidK ns N 0 = a := hd 0 (by omega)
    have k1 : kidK ns N 1 = b := hd 1 (by omega)
    simp [hl, exB, namedB, k0, k1, km_one, km_one0, km_nil, km_opt, km_opt0, ms] <;> grind
  · have hl : N.ks.length = 3 := by rw [← hlen]; rfl
    have k0 : kidK ns N 0 = a := hd 0 (by omega)
    have k1 : kidK ns N 1 = b := hd 1 (by omega)
    have k2 : kidK ns N 2 = c := hd 2 (by omega)
    simp [hl, exB, namedB, k0, k1, k2, km_one, km_one0, km_nil, km_opt, km_opt0, ms] <;> grind
  · have hl : N.ks.length = r.length + 4 := by rw [← hlen]; rfl
    have k0 : kidK ns N 0 = a := hd 0 (by omega)
    have k1 : kidK ns N 1 = b := hd 1 (by omega)
    have k2 : kidK ns N 2 = c := hd 2 (by omega)
    have k3 : kidK ns N 3 = q := hd 3 (by omega)
    simp [hl, exB, namedB, k0, k1, k2, k3, km_one, km_one0, km_nil, km_opt, km_opt0, ms] <;> grind
theorem core8 (ns : List Nd) (N : Nd) (hk : N.k = 8) (h2 : N.nm.length ≤ 200) : coreL ns N = seB ns N := by
  have e1 : cls N.k = 6 := by rw [hk]; rfl
  have e3 : seB ns N = (bareB N false false false false && ((N.ks.length : Int) == 2) && exB ns N 1 0 && (kidK ns N 1 == 1)) := by
    unfold seB
    rw [if_pos (by rw [hk]; rfl)]
    unfold stB
    rw [if_neg (by rw [hk]; decide), if_neg (by rw [hk]; decide), if_neg (by rw [hk]; decide), if_neg (by rw [hk]; decide), if_neg (by rw [hk]; decide), if_neg (by rw [hk]; decide), if_neg (by rw [hk]; decide), if_pos hk]
  have e2 : rowW N.k = some [(3, 0), (1, 0)] := by rw [hk]; rfl
  have e4 : mostN 8 = 1 := rfl
  have e5 : rkB N.k (kinds ns N.ks) = kmatch [(3, 0), (1, 0)] (kinds ns N.ks) := by unfold rkB; rw [e2]
  unfold coreL kfB
  rw [sameB_bare, e1, e3, if_neg (by decide), e5]
  simp only [ffB, txB, hk, e4]
  have hlen := kinds_len ns N.ks
  have hd := getD_kid ns N
  revert hlen hd
  generalize kinds ns N.ks = K
  intro hlen hd
  rcases K with _ | ⟨a, _ | ⟨b, _ | ⟨q, r⟩⟩⟩
  · have hl : N.ks.length = 0 := by rw [← hlen]; rfl
    simp [hl, exB, namedB, km_one, km_one0, km_nil, km_opt, km_opt0, ms] <;> grind
  · have hl : N.ks.length = 1 := by rw [← hlen]; rfl
    have k0 : kidK ns N 0 = a := hd 0 (by omega)
    simp [hl, exB, namedB, k0, km_one, km_one0, km_nil, km_opt, km_opt0, ms] <;> grind
  · have hl : N.ks.length = 2 := by rw [← hlen]; rfl
    have k0 : kidK ns N 0 = a := hd 0 (by omega)
    have k1 : kidK ns N 1 = b := hd 1 (by omega)
    simp [hl, exB, namedB, k0, k1, km_one, km_one0, km_nil, km_opt, km_opt0, ms] <;> grind
  · have hl : N.ks.length = r.length + 3 := by rw [← hlen]; rfl
    have k0 : kidK ns N 0 = a := hd 0 (by omega)
    have k1 : kidK ns N 1 = b := hd 1 (by omega)
    have k2 : kidK ns N 2 = q := hd 2 (by omega)
    simp [hl, exB, namedB, k0, k1, k2, km_one, km_one0, km_nil, km_opt, km_opt0, ms] <;> grind
theorem core9 (ns : List Nd) (N : Nd) (hk : N.k = 9) (h2 : N.nm.length ≤ 200) : coreL ns N = seB ns N := by
  have e1 : cls N.k = 0 := by rw [hk]; rfl
  have e3 : seB ns N = (bareB N false false false true && (namedB N 1 1 && (((N.ks.length : Int) == 3 || (N.ks.length : Int) == 4) && (exB ns N (N.ks.length - 1) 0 && (kidK ns N (N.ks.length - 1) == 1))))) := by
    unfold seB
    rw [if_pos (by rw [hk]; rfl)]
    unfold stB
    rw [if_neg (by rw [hk]; decide), if_neg (by rw [hk]; decide), if_neg (by rw [hk]; decide), if_neg (by rw [hk]; decide), if_neg (by rw [hk]; decide), if_neg (by rw [hk]; decide), if_neg (by rw [hk]; decide), if_neg (by rw [hk]; decide), if_pos hk]
  have e2 : rowW N.k = some [(3, 0), (3, 0), (3, 2), (1, 0)] := by rw [hk]; rfl
  have e4 : mostN 9 = 1 := rfl
  have e5 : rkB N.k (kinds ns N.ks) = kmatch [(3, 0), (3, 0), (3, 2), (1, 0)] (kinds ns N.ks) := by unfold rkB; rw [e2]
  unfold coreL kfB
  rw [sameB_bare, e1, e3, if_neg (by decide), e5]
  simp only [ffB, txB, hk, e4]
  have hlen := kinds_len ns N.ks
  have hd := getD_kid ns N
  revert hlen hd
  generalize kinds ns N.ks = K
  intro hlen hd
  rcases K with _ | ⟨a, _ | ⟨b, _ | ⟨c, _ | ⟨d, _ | ⟨q, r⟩⟩⟩⟩⟩
  · have hl : N.ks.length = 0 := by rw [← hlen]; rfl
    simp [hl, exB, namedB, km_one, km_one0, km_nil, km_opt, km_opt0, ms] <;> grind
  · have hl : N.ks.length = 1 := by rw [← hlen]; rfl
    have k0 : kidK ns N 0 = a := hd 0 (by omega)
    simp [hl, exB, namedB, k0, km_one, km_one0, km_nil, km_opt, km_opt0, ms] <;> grind
  · have hl : N.ks.length = 2 := by rw [← hlen]; rfl
    have k0 : kidK ns N 0 = a := hd 0 (by omega)
    have k1 : kidK ns N 1 = b := hd 1 (by omega)
    simp [hl, exB, namedB, k0, k1, km_one, km_one0, km_nil, km_opt, km_opt0, ms] <;> grind
  · have hl : N.ks.length = 3 := by rw [← hlen]; rfl
    have k0 : kidK ns N 0 = a := hd 0 (by omega)
    have k1 : kidK ns N 1 = b := hd 1 (by omega)
    have k2 : kidK ns N 2 = c := hd 2 (by omega)
    have hc1 : c = 1 → exprK c = false := by rintro rfl; rfl
    simp [hl, exB, namedB, k0, k1, k2, km_one, km_one0, km_nil, km_opt, km_opt0, ms] <;> grind
  · have hl : N.ks.length = 4 := by rw [← hlen]; rfl
    have k0 : kidK ns N 0 = a := hd 0 (by omega)
    have k1 : kidK ns N 1 = b := hd 1 (by omega)
    have k2 : kidK ns N 2 = c := hd 2 (by omega)
    have k3 : kidK ns N 3 = d := hd 3 (by omega)
    simp [hl, exB, namedB, k0, k1, k2, k3, km_one, km_one0, km_nil, km_opt, km_opt0, ms] <;> grind
  · have hl : N.ks.length = r.length + 5 := by rw [← hlen]; rfl
    have k0 : kidK ns N 0 = a := hd 0 (by omega)
    have k1 : kidK ns N 1 = b := hd 1 (by omega)
    have k2 : kidK ns N 2 = c := hd 2 (by omega)
    have k3 : kidK ns N 3 = d := hd 3 (by omega)
    have k4 : kidK ns N 4 = q := hd 4 (by omega)
    simp [hl, exB, namedB, k0, k1, k2, k3, k4, km_one, km_one0, km_nil, km_opt, km_opt0, ms] <;> grind
theorem core10 (ns : List Nd) (N : Nd) (hk : N.k = 10) (h2 : N.nm.length ≤ 200) : coreL ns N = seB ns N := by
  have e1 : cls N.k = 0 := by rw [hk]; rfl
  have e3 : seB ns N = (bareB N false false false true && namedB N 1 200 && ((N.ks.length : Int) == 2) && exB ns N 1 0 && (kidK ns N 1 == 1)) := by
    unfold seB
    rw [if_pos (by rw [hk]; rfl)]
    unfold stB
    rw [if_neg (by rw [hk]; decide), if_neg (by rw [hk]; decide), if_neg (by rw [hk]; decide), if_neg (by rw [hk]; decide), if_neg (by rw [hk]; decide), if_neg (by rw [hk]; decide), if_neg (by rw [hk]; decide), if_neg (by rw [hk]; decide), if_neg (by rw [hk]; decide), if_pos hk]
  have e2 : rowW N.k = some [(3, 0), (1, 0)] := by rw [hk]; rfl
  have e4 : mostN 10 = 200 := rfl
  have e5 : rkB N.k (kinds ns N.ks) = kmatch [(3, 0), (1, 0)] (kinds ns N.ks) := by unfold rkB; rw [e2]
  unfold coreL kfB
  rw [sameB_bare, e1, e3, if_neg (by decide), e5]
  simp only [ffB, txB, hk, e4]
  have hlen := kinds_len ns N.ks
  have hd := getD_kid ns N
  revert hlen hd
  generalize kinds ns N.ks = K
  intro hlen hd
  rcases K with _ | ⟨a, _ | ⟨b, _ | ⟨q, r⟩⟩⟩
  · have hl : N.ks.length = 0 := by rw [← hlen]; rfl
    simp [hl, exB, namedB, km_one, km_one0, km_nil, km_opt, km_opt0, ms] <;> grind
  · have hl : N.ks.length = 1 := by rw [← hlen]; rfl
    have k0 : kidK ns N 0 = a := hd 0 (by omega)
    simp [hl, exB, namedB, k0, km_one, km_one0, km_nil, km_opt, km_opt0, ms] <;> grind
  · have hl : N.ks.length = 2 := by rw [← hlen]; rfl
    have k0 : kidK ns N 0 = a := hd 0 (by omega)
    have k1 : kidK ns N 1 = b := hd 1 (by omega)
    simp [hl, exB, namedB, k0, k1, km_one, km_one0, km_nil, km_opt, km_opt0, ms] <;> grind
  · have hl : N.ks.length = r.length + 3 := by rw [← hlen]; rfl
    have k0 : kidK ns N 0 = a := hd 0 (by omega)
    have k1 : kidK ns N 1 = b := hd 1 (by omega)
    have k2 : kidK ns N 2 = q := hd 2 (by omega)
    simp [hl, exB, namedB, k0, k1, k2, km_one, km_one0, km_nil, km_opt, km_opt0, ms] <;> grind
theorem core11 (ns : List Nd) (N : Nd) (hk : N.k = 11) (h2 : N.nm.length ≤ 200) : coreL ns N = seB ns N := by
  have e1 : cls N.k = 6 := by rw [hk]; rfl
  have e3 : seB ns N = (bareB N false false false false && ((N.ks.length : Int) == 0)) := by
    unfold seB
    rw [if_pos (by rw [hk]; rfl)]
    unfold stB
    rw [if_neg (by rw [hk]; decide), if_neg (by rw [hk]; decide), if_neg (by rw [hk]; decide), if_neg (by rw [hk]; decide), if_neg (by rw [hk]; decide), if_neg (by rw [hk]; decide), if_neg (by rw [hk]; decide), if_neg (by rw [hk]; decide), if_neg (by rw [hk]; decide), if_neg (by rw [hk]; decide), if_pos hk]
  have e2 : rowW N.k = some [] := by rw [hk]; rfl
  have e4 : mostN 11 = 1 := rfl
  have e5 : rkB N.k (kinds ns N.ks) = kmatch [] (kinds ns N.ks) := by unfold rkB; rw [e2]
  unfold coreL kfB
  rw [sameB_bare, e1, e3, if_neg (by decide), e5]
  simp only [ffB, txB, hk, e4]
  have hlen := kinds_len ns N.ks
  have hd := getD_kid ns N
  revert hlen hd
  generalize kinds ns N.ks = K
  intro hlen hd
  rcases K with _ | ⟨q, r⟩
  · have hl : N.ks.length = 0 := by rw [← hlen]; rfl
    simp [hl, exB, namedB, km_one, km_one0, km_nil, km_opt, km_opt0, ms] <;> grind
  · have hl : N.ks.length = r.length + 1 := by rw [← hlen]; rfl
    have k0 : kidK ns N 0 = q := hd 0 (by omega)
    simp [hl, exB, namedB, k0, km_one, km_one0, km_nil, km_opt, km_opt0, ms] <;> grind
theorem core12 (ns : List Nd) (N : Nd) (hk : N.k = 12) (h2 : N.nm.length ≤ 200) : coreL ns N = seB ns N := by
  have e1 : cls N.k = 6 := by rw [hk]; rfl
  have e3 : seB ns N = (bareB N false false false false && ((N.ks.length : Int) == 0)) := by
    unfold seB
    rw [if_pos (by rw [hk]; rfl)]
    unfold stB
    rw [if_neg (by rw [hk]; decide), if_neg (by rw [hk]; decide), if_neg (by rw [hk]; decide), if_neg (by rw [hk]; decide), if_neg (by rw [hk]; decide), if_neg (by rw [hk]; decide), if_neg (by rw [hk]; decide), if_neg (by rw [hk]; decide), if_neg (by rw [hk]; decide), if_neg (by rw [hk]; decide), if_neg (by rw [hk]; decide), if_pos hk]
  have e2 : rowW N.k = some [] := by rw [hk]; rfl
  have e4 : mostN 12 = 1 := rfl
  have e5 : rkB N.k (kinds ns N.ks) = kmatch [] (kinds ns N.ks) := by unfold rkB; rw [e2]
  unfold coreL kfB
  rw [sameB_bare, e1, e3, if_neg (by decide), e5]
  simp only [ffB, txB, hk, e4]
  have hlen := kinds_len ns N.ks
  have hd := getD_kid ns N
  revert hlen hd
  generalize kinds ns N.ks = K
  intro hlen hd
  rcases K with _ | ⟨q, r⟩
  · have hl : N.ks.length = 0 := by rw [← hlen]; rfl
    simp [hl, exB, namedB, km_one, km_one0, km_nil, km_opt, km_opt0, ms] <;> grind
  · have hl : N.ks.length = r.length + 1 := by rw [← hlen]; rfl
    have k0 : kidK ns N 0 = q := hd 0 (by omega)
    simp [hl, exB, namedB, k0, km_one, km_one0, km_nil, km_opt, km_opt0, ms] <;> grind
theorem core13 (ns : List Nd) (N : Nd) (hk : N.k = 13) (h2 : N.nm.length ≤ 200) : coreL ns N = seB ns N := by
  have e1 : cls N.k = 6 := by rw [hk]; rfl
  have e3 : seB ns N = (bareB N false false false false && exB ns N N.ks.length 0) := by
    unfold seB
    rw [if_pos (by rw [hk]; rfl)]
    unfold stB
    rw [if_neg (by rw [hk]; decide), if_neg (by rw [hk]; decide), if_neg (by rw [hk]; decide), if_neg (by rw [hk]; decide), if_neg (by rw [hk]; decide), if_neg (by rw [hk]; decide), if_neg (by rw [hk]; decide), if_neg (by rw [hk]; decide), if_neg (by rw [hk]; decide), if_neg (by rw [hk]; decide), if_neg (by rw [hk]; decide), if_neg (by rw [hk]; decide), if_pos hk]
  have e2 : rowW N.k = some [(3, 1)] := by rw [hk]; rfl
  have e4 : mostN 13 = 1 := rfl
  have e5 : rkB N.k (kinds ns N.ks) = kmatch [(3, 1)] (kinds ns N.ks) := by unfold rkB; rw [e2]
  unfold coreL kfB
  rw [sameB_bare, e1, e3, if_neg (by decide), e5]
  simp only [ffB, txB, hk, e4]
  have hlen := kinds_len ns N.ks
  have hd := getD_kid ns N
  have hx := ex_all ns N
  have hs := sb_all ns N
  have he := en_all ns N
  have h0 := hx N.ks.length 0 (by omega)
  rw [← hlen] at h0
  rw [List.drop_zero, List.take_length] at h0
  rw [km_star, ← hlen, h0]
  have e9 : (kinds ns N.ks).all (ms 3) = (kinds ns N.ks).all exprK := rfl
  rw [e9]
  generalize (kinds ns N.ks).all exprK = z
  generalize bareB N false false false false = B
  cases B <;> cases z <;> rfl
theorem core14 (ns : List Nd) (N : Nd) (hk : N.k = 14) (h2 : N.nm.length ≤ 200) : coreL ns N = seB ns N := by
  have e1 : cls N.k = 0 := by rw [hk]; rfl
  have e3 : seB ns N = (bareB N false false false true && namedB N 1 2 && ((N.ks.length : Int) == 2) && (kidK ns N 0 == 1) && (kidK ns N 1 == 1)) := by
    unfold seB
    rw [if_pos (by rw [hk]; rfl)]
    unfold stB
    rw [if_neg (by rw [hk]; decide), if_neg (by rw [hk]; decide), if_neg (by rw [hk]; decide), if_neg (by rw [hk]; decide), if_neg (by rw [hk]; decide), if_neg (by rw [hk]; decide), if_neg (by rw [hk]; decide), if_neg (by rw [hk]; decide), if_neg (by rw [hk]; decide), if_neg (by rw [hk]; decide), if_neg (by rw [hk]; decide), if_neg (by rw [hk]; decide), if_neg (by rw [hk]; decide), if_pos hk]
  have e2 : rowW N.k = some [(1, 0), (1, 0)] := by rw [hk]; rfl
  have e4 : mostN 14 = 2 := rfl
  have e5 : rkB N.k (kinds ns N.ks) = kmatch [(1, 0), (1, 0)] (kinds ns N.ks) := by unfold rkB; rw [e2]
  unfold coreL kfB
  rw [sameB_bare, e1, e3, if_neg (by decide), e5]
  simp only [ffB, txB, hk, e4]
  have hlen := kinds_len ns N.ks
  have hd := getD_kid ns N
  revert hlen hd
  generalize kinds ns N.ks = K
  intro hlen hd
  rcases K with _ | ⟨a, _ | ⟨b, _ | ⟨q, r⟩⟩⟩
  · have hl : N.ks.length = 0 := by rw [← hlen]; rfl
    simp [hl, exB, namedB, km_one, km_one0, km_nil, km_opt, km_opt0, ms] <;> grind
  · have hl : N.ks.length = 1 := by rw [← hlen]; rfl
    have k0 : kidK ns N 0 = a := hd 0 (by omega)
    simp [hl, exB, namedB, k0, km_one, km_one0, km_nil, km_opt, km_opt0, ms] <;> grind
  · have hl : N.ks.length = 2 := by rw [← hlen]; rfl
    have k0 : kidK ns N 0 = a := hd 0 (by omega)
    have k1 : kidK ns N 1 = b := hd 1 (by omega)
    simp [hl, exB, namedB, k0, k1, km_one, km_one0, km_nil, km_opt, km_opt0, ms] <;> grind
  · have hl : N.ks.length = r.length + 3 := by rw [← hlen]; rfl
    have k0 : kidK ns N 0 = a := hd 0 (by omega)
    have k1 : kidK ns N 1 = b := hd 1 (by omega)
    have k2 : kidK ns N 2 = q := hd 2 (by omega)
    simp [hl, exB, namedB, k0, k1, k2, km_one, km_one0, km_nil, km_opt, km_opt0, ms] <;> grind
theorem core15 (ns : List Nd) (N : Nd) (hk : N.k = 15) (h2 : N.nm.length ≤ 200) : coreL ns N = seB ns N := by
  have e1 : cls N.k = 6 := by rw [hk]; rfl
  have e3 : seB ns N = (bareB N false false false false && ((N.ks.length : Int) == 1) && exB ns N 1 0) := by
    unfold seB
    rw [if_pos (by rw [hk]; rfl)]
    unfold stB
    rw [if_neg (by rw [hk]; decide), if_neg (by rw [hk]; decide), if_neg (by rw [hk]; decide), if_neg (by rw [hk]; decide), if_neg (by rw [hk]; decide), if_neg (by rw [hk]; decide), if_neg (by rw [hk]; decide), if_neg (by rw [hk]; decide), if_neg (by rw [hk]; decide), if_neg (by rw [hk]; decide), if_neg (by rw [hk]; decide), if_neg (by rw [hk]; decide), if_neg (by rw [hk]; decide), if_neg (by rw [hk]; decide), if_pos hk]
  have e2 : rowW N.k = some [(3, 0)] := by rw [hk]; rfl
  have e4 : mostN 15 = 1 := rfl
  have e5 : rkB N.k (kinds ns N.ks) = kmatch [(3, 0)] (kinds ns N.ks) := by unfold rkB; rw [e2]
  unfold coreL kfB
  rw [sameB_bare, e1, e3, if_neg (by decide), e5]
  simp only [ffB, txB, hk, e4]
  have hlen := kinds_len ns N.ks
  have hd := getD_kid ns N
  revert hlen hd
  generalize kinds ns N.ks = K
  intro hlen hd
  rcases K with _ | ⟨a, _ | ⟨q, r⟩⟩
  · have hl : N.ks.length = 0 := by rw [← hlen]; rfl
    simp [hl, exB, namedB, km_one, km_one0, km_nil, km_opt, km_opt0, ms] <;> grind
  · have hl : N.ks.length = 1 := by rw [← hlen]; rfl
    have k0 : kidK ns N 0 = a := hd 0 (by omega)
    simp [hl, exB, namedB, k0, km_one, km_one0, km_nil, km_opt, km_opt0, ms] <;> grind
  · have hl : N.ks.length = r.length + 2 := by rw [← hlen]; rfl
    have k0 : kidK ns N 0 = a := hd 0 (by omega)
    have k1 : kidK ns N 1 = q := hd 1 (by omega)
    simp [hl, exB, namedB, k0, k1, km_one, km_one0, km_nil, km_opt, km_opt0, ms] <;> grind
theorem core16 (ns : List Nd) (N : Nd) (hk : N.k = 16) (h2 : N.nm.length ≤ 200) : coreL ns N = seB ns N := by
  have e1 : cls N.k = 6 := by rw [hk]; rfl
  have e3 : seB ns N = (bareB N false false false false && ((N.ks.length : Int) == 1) && (kidK ns N 0 == 34)) := by
    unfold seB
    rw [if_pos (by rw [hk]; rfl)]
    unfold stB
    rw [if_neg (by rw [hk]; decide), if_neg (by rw [hk]; decide), if_neg (by rw [hk]; decide), if_neg (by rw [hk]; decide), if_neg (by rw [hk]; decide), if_neg (by rw [hk]; decide), if_neg (by rw [hk]; decide), if_neg (by rw [hk]; decide), if_neg (by rw [hk]; decide), if_neg (by rw [hk]; decide), if_neg (by rw [hk]; decide), if_neg (by rw [hk]; decide), if_neg (by rw [hk]; decide), if_neg (by rw [hk]; decide), if_neg (by rw [hk]; decide), if_pos hk]
  have e2 : rowW N.k = some [(6, 0)] := by rw [hk]; rfl
  have e4 : mostN 16 = 1 := rfl
  have e5 : rkB N.k (kinds ns N.ks) = kmatch [(6, 0)] (kinds ns N.ks) := by unfold rkB; rw [e2]
  unfold coreL kfB
  rw [sameB_bare, e1, e3, if_neg (by decide), e5]
  simp only [ffB, txB, hk, e4]
  have hlen := kinds_len ns N.ks
  have hd := getD_kid ns N
  revert hlen hd
  generalize kinds ns N.ks = K
  intro hlen hd
  rcases K with _ | ⟨a, _ | ⟨q, r⟩⟩
  · have hl : N.ks.length = 0 := by rw [← hlen]; rfl
    simp [hl, exB, namedB, km_one, km_one0, km_nil, km_opt, km_opt0, ms] <;> grind
  · have hl : N.ks.length = 1 := by rw [← hlen]; rfl
    have k0 : kidK ns N 0 = a := hd 0 (by omega)
    simp [hl, exB, namedB, k0, km_one, km_one0, km_nil, km_opt, km_opt0, ms] <;> grind
  · have hl : N.ks.length = r.length + 2 := by rw [← hlen]; rfl
    have k0 : kidK ns N 0 = a := hd 0 (by omega)
    have k1 : kidK ns N 1 = q := hd 1 (by omega)
    simp [hl, exB, namedB, k0, k1, km_one, km_one0, km_nil, km_opt, km_opt0, ms] <;> grind
theorem core20 (ns : List Nd) (N : Nd) (hk : N.k = 20) (h2 : N.nm.length ≤ 200) : coreL ns N = seB ns N := by
  have e1 : cls N.k = 6 := by rw [hk]; rfl
  have e3 : seB ns N = (((N.ks.length : Int) == 0) && bareB N false false false false) := by
    unfold seB
    rw [if_neg (by rw [hk]; decide)]
    unfold exprB
    rw [if_pos hk]
  have e2 : rowW N.k = some [] := by rw [hk]; rfl
  have e4 : mostN 20 = 1 := rfl
  have e5 : rkB N.k (kinds ns N.ks) = kmatch [] (kinds ns N.ks) := by unfold rkB; rw [e2]
  unfold coreL kfB
  rw [sameB_bare, e1, e3, if_neg (by decide), e5]
  simp only [ffB, txB, hk, e4]
  have hlen := kinds_len ns N.ks
  have hd := getD_kid ns N
  revert hlen hd
  generalize kinds ns N.ks = K
  intro hlen hd
  rcases K with _ | ⟨q, r⟩
  · have hl : N.ks.length = 0 := by rw [← hlen]; rfl
    simp [hl, exB, namedB, km_one, km_one0, km_nil, km_opt, km_opt0, ms] <;> grind
  · have hl : N.ks.length = r.length + 1 := by rw [← hlen]; rfl
    have k0 : kidK ns N 0 = q := hd 0 (by omega)
    simp [hl, exB, namedB, k0, km_one, km_one0, km_nil, km_opt, km_opt0, ms] <;> grind
theorem core21 (ns : List Nd) (N : Nd) (hk : N.k = 21) (h2 : N.nm.length ≤ 200) : coreL ns N = seB ns N := by
  have e1 : cls N.k = 6 := by rw [hk]; rfl
  have e3 : seB ns N = (((N.ks.length : Int) == 0) && bareB N false false false false) := by
    unfold seB
    rw [if_neg (by rw [hk]; decide)]
    unfold exprB
    rw [if_neg (by rw [hk]; decide), if_pos hk]
  have e2 : rowW N.k = some [] := by rw [hk]; rfl
  have e4 : mostN 21 = 1 := rfl
  have e5 : rkB N.k (kinds ns N.ks) = kmatch [] (kinds ns N.ks) := by unfold rkB; rw [e2]
  unfold coreL kfB
  rw [sameB_bare, e1, e3, if_neg (by decide), e5]
  simp only [ffB, txB, hk, e4]
  have hlen := kinds_len ns N.ks
  have hd := getD_kid ns N
  revert hlen hd
  generalize kinds ns N.ks = K
  intro hlen hd
  rcases K with _ | ⟨q, r⟩
  · have hl : N.ks.length = 0 := by rw [← hlen]; rfl
    simp [hl, exB, namedB, km_one, km_one0, km_nil, km_opt, km_opt0, ms] <;> grind
  · have hl : N.ks.length = r.length + 1 := by rw [← hlen]; rfl
    have k0 : kidK ns N 0 = q := hd 0 (by omega)
    simp [hl, exB, namedB, k0, km_one, km_one0, km_nil, km_opt, km_opt0, ms] <;> grind
theorem core22 (ns : List Nd) (N : Nd) (hk : N.k = 22) (h2 : N.nm.length ≤ 200) : coreL ns N = seB ns N := by
  have e1 : cls N.k = 6 := by rw [hk]; rfl
  have e3 : seB ns N = (((N.ks.length : Int) == 0) && bareB N false false false false) := by
    unfold seB
    rw [if_neg (by rw [hk]; decide)]
    unfold exprB
    rw [if_neg (by rw [hk]; decide), if_neg (by rw [hk]; decide), if_pos hk]
  have e2 : rowW N.k = some [] := by rw [hk]; rfl
  have e4 : mostN 22 = 1 := rfl
  have e5 : rkB N.k (kinds ns N.ks) = kmatch [] (kinds ns N.ks) := by unfold rkB; rw [e2]
  unfold coreL kfB
  rw [sameB_bare, e1, e3, if_neg (by decide), e5]
  simp only [ffB, txB, hk, e4]
  have hlen := kinds_len ns N.ks
  have hd := getD_kid ns N
  revert hlen hd
  generalize kinds ns N.ks = K
  intro hlen hd
  rcases K with _ | ⟨q, r⟩
  · have hl : N.ks.length = 0 := by rw [← hlen]; rfl
    simp [hl, exB, namedB, km_one, km_one0, km_nil, km_opt, km_opt0, ms] <;> grind
  · have hl : N.ks.length = r.length + 1 := by rw [← hlen]; rfl
    have k0 : kidK ns N 0 = q := hd 0 (by omega)
    simp [hl, exB, namedB, k0, km_one, km_one0, km_nil, km_opt, km_opt0, ms] <;> grind
theorem core27 (ns : List Nd) (N : Nd) (hk : N.k = 27) (h2 : N.nm.length ≤ 200) : coreL ns N = seB ns N := by
  have e1 : cls N.k = 6 := by rw [hk]; rfl
  have e3 : seB ns N = (((N.ks.length : Int) == 0) && bareB N false false false false) := by
    unfold seB
    rw [if_neg (by rw [hk]; decide)]
    unfold exprB
    rw [if_neg (by rw [hk]; decide), if_neg (by rw [hk]; decide), if_neg (by rw [hk]; decide), if_pos hk]
  have e2 : rowW N.k = some [] := by rw [hk]; rfl
  have e4 : mostN 27 = 1 := rfl
  have e5 : rkB N.k (kinds ns N.ks) = kmatch [] (kinds ns N.ks) := by unfold rkB; rw [e2]
  unfold coreL kfB
  rw [sameB_bare, e1, e3, if_neg (by decide), e5]
  simp only [ffB, txB, hk, e4]
  have hlen := kinds_len ns N.ks
  have hd := getD_kid ns N
  revert hlen hd
  generalize kinds ns N.ks = K
  intro hlen hd
  rcases K with _ | ⟨q, r⟩
  · have hl : N.ks.length = 0 := by rw [← hlen]; rfl
    simp [hl, exB, namedB, km_one, km_one0, km_nil, km_opt, km_opt0, ms] <;> grind
  · have hl : N.ks.length = r.length + 1 := by rw [← hlen]; rfl
    have k0 : kidK ns N 0 = q := hd 0 (by omega)
    simp [hl, exB, namedB, k0, km_one, km_one0, km_nil, km_opt, km_opt0, ms] <;> grind
theorem core23 (ns : List Nd) (N : Nd) (hk : N.k = 23) (h2 : N.nm.length ≤ 200) : coreL ns N = seB ns N := by
  have e1 : cls N.k = 2 := by rw [hk]; rfl
  have e3 : seB ns N = (((N.ks.length : Int) == 0) && bareB N false true false false) := by
    unfold seB
    rw [if_neg (by rw [hk]; decide)]
    unfold exprB
    rw [if_neg (by rw [hk]; decide), if_neg (by rw [hk]; decide), if_neg (by rw [hk]; decide), if_neg (by rw [hk]; decide), if_pos hk]
  have e2 : rowW N.k = some [] := by rw [hk]; rfl
  have e4 : mostN 23 = 1 := rfl
  have e5 : rkB N.k (kinds ns N.ks) = kmatch [] (kinds ns N.ks) := by unfold rkB; rw [e2]
  unfold coreL kfB
  rw [sameB_bare, e1, e3, if_neg (by decide), e5]
  simp only [ffB, txB, hk, e4]
  have hlen := kinds_len ns N.ks
  have hd := getD_kid ns N
  revert hlen hd
  generalize kinds ns N.ks = K
  intro hlen hd
  rcases K with _ | ⟨q, r⟩
  · have hl : N.ks.length = 0 := by rw [← hlen]; rfl
    simp [hl, exB, namedB, km_one, km_one0, km_nil, km_opt, km_opt0, ms] <;> grind
  · have hl : N.ks.length = r.length + 1 := by rw [← hlen]; rfl
    have k0 : kidK ns N 0 = q := hd 0 (by omega)
    simp [hl, exB, namedB, k0, km_one, km_one0, km_nil, km_opt, km_opt0, ms] <;> grind
theorem core24 (ns : List Nd) (N : Nd) (hk : N.k = 24) (h2 : N.nm.length ≤ 200) : coreL ns N = seB ns N := by
  have e1 : cls N.k = 3 := by rw [hk]; rfl
  have e3 : seB ns N = (((N.ks.length : Int) == 0) && bareB N false false true false && fok N.x) := by
    unfold seB
    rw [if_neg (by rw [hk]; decide)]
    unfold exprB
    rw [if_neg (by rw [hk]; decide), if_neg (by rw [hk]; decide), if_neg (by rw [hk]; decide), if_neg (by rw [hk]; decide), if_neg (by rw [hk]; decide), if_pos hk]
  have e2 : rowW N.k = some [] := by rw [hk]; rfl
  have e4 : mostN 24 = 1 := rfl
  have e5 : rkB N.k (kinds ns N.ks) = kmatch [] (kinds ns N.ks) := by unfold rkB; rw [e2]
  unfold coreL kfB
  rw [sameB_bare, e1, e3, if_neg (by decide), e5]
  simp only [ffB, txB, hk, e4]
  have hlen := kinds_len ns N.ks
  have hd := getD_kid ns N
  revert hlen hd
  generalize kinds ns N.ks = K
  intro hlen hd
  rcases K with _ | ⟨q, r⟩
  · have hl : N.ks.length = 0 := by rw [← hlen]; rfl
    simp [hl, exB, namedB, km_one, km_one0, km_nil, km_opt, km_opt0, ms] <;> grind
  · have hl : N.ks.length = r.length + 1 := by rw [← hlen]; rfl
    have k0 : kidK ns N 0 = q := hd 0 (by omega)
    simp [hl, exB, namedB, k0, km_one, km_one0, km_nil, km_opt, km_opt0, ms] <;> grind
theorem core25 (ns : List Nd) (N : Nd) (hk : N.k = 25) (h2 : N.nm.length ≤ 200) : coreL ns N = seB ns N := by
  have e1 : cls N.k = 3 := by rw [hk]; rfl
  have e3 : seB ns N = (((N.ks.length : Int) == 0) && bareB N false false true false && decide ((N.x.size : Int) ≤ 4000)) := by
    unfold seB
    rw [if_neg (by rw [hk]; decide)]
    unfold exprB
    rw [if_neg (by rw [hk]; decide), if_neg (by rw [hk]; decide), if_neg (by rw [hk]; decide), if_neg (by rw [hk]; decide), if_neg (by rw [hk]; decide), if_neg (by rw [hk]; decide), if_pos hk]
  have e2 : rowW N.k = some [] := by rw [hk]; rfl
  have e4 : mostN 25 = 1 := rfl
  have e5 : rkB N.k (kinds ns N.ks) = kmatch [] (kinds ns N.ks) := by unfold rkB; rw [e2]
  unfold coreL kfB
  rw [sameB_bare, e1, e3, if_neg (by decide), e5]
  simp only [ffB, txB, hk, e4]
  have hlen := kinds_len ns N.ks
  have hd := getD_kid ns N
  revert hlen hd
  generalize kinds ns N.ks = K
  intro hlen hd
  rcases K with _ | ⟨q, r⟩
  · have hl : N.ks.length = 0 := by rw [← hlen]; rfl
    simp [hl, exB, namedB, km_one, km_one0, km_nil, km_opt, km_opt0, ms] <;> grind
  · have hl : N.ks.length = r.length + 1 := by rw [← hlen]; rfl
    have k0 : kidK ns N 0 = q := hd 0 (by omega)
    simp [hl, exB, namedB, k0, km_one, km_one0, km_nil, km_opt, km_opt0, ms] <;> grind
theorem core26 (ns : List Nd) (N : Nd) (hk : N.k = 26) (h2 : N.nm.length ≤ 200) : coreL ns N = seB ns N := by
  have e1 : cls N.k = 3 := by rw [hk]; rfl
  have e3 : seB ns N = (((N.ks.length : Int) == 0) && bareB N false false true false && nmok N.x) := by
    unfold seB
    rw [if_neg (by rw [hk]; decide)]
    unfold exprB
    rw [if_neg (by rw [hk]; decide), if_neg (by rw [hk]; decide), if_neg (by rw [hk]; decide), if_neg (by rw [hk]; decide), if_neg (by rw [hk]; decide), if_neg (by rw [hk]; decide), if_neg (by rw [hk]; decide), if_pos hk]
  have e2 : rowW N.k = some [] := by rw [hk]; rfl
  have e4 : mostN 26 = 1 := rfl
  have e5 : rkB N.k (kinds ns N.ks) = kmatch [] (kinds ns N.ks) := by unfold rkB; rw [e2]
  unfold coreL kfB
  rw [sameB_bare, e1, e3, if_neg (by decide), e5]
  simp only [ffB, txB, hk, e4]
  have hlen := kinds_len ns N.ks
  have hd := getD_kid ns N
  revert hlen hd
  generalize kinds ns N.ks = K
  intro hlen hd
  rcases K with _ | ⟨q, r⟩
  · have hl : N.ks.length = 0 := by rw [← hlen]; rfl
    simp [hl, exB, namedB, km_one, km_one0, km_nil, km_opt, km_opt0, ms] <;> grind
  · have hl : N.ks.length = r.length + 1 := by rw [← hlen]; rfl
    have k0 : kidK ns N 0 = q := hd 0 (by omega)
    simp [hl, exB, namedB, k0, km_one, km_one0, km_nil, km_opt, km_opt0, ms] <;> grind
theorem core28 (ns : List Nd) (N : Nd) (hk : N.k = 28) (h2 : N.nm.length ≤ 200) : coreL ns N = seB ns N := by
  have e1 : cls N.k = 6 := by rw [hk]; rfl
  have e3 : seB ns N = (((N.ks.length : Int) == 2) && exB ns N 2 0 && bareB N false false false false) := by
    unfold seB
    rw [if_neg (by rw [hk]; decide)]
    unfold exprB
    rw [if_neg (by rw [hk]; decide), if_neg (by rw [hk]; decide), if_neg (by rw [hk]; decide), if_neg (by rw [hk]; decide), if_neg (by rw [hk]; decide), if_neg (by rw [hk]; decide), if_neg (by rw [hk]; decide), if_neg (by rw [hk]; decide), if_pos hk]
  have e2 : rowW N.k = some [(3, 0), (3, 0)] := by rw [hk]; rfl
  have e4 : mostN 28 = 1 := rfl
  have e5 : rkB N.k (kinds ns N.ks) = kmatch [(3, 0), (3, 0)] (kinds ns N.ks) := by unfold rkB; rw [e2]
  unfold coreL kfB
  rw [sameB_bare, e1, e3, if_neg (by decide), e5]
  simp only [ffB, txB, hk, e4]
  have hlen := kinds_len ns N.ks
  have hd := getD_kid ns N
  revert hlen hd
  generalize kinds ns N.ks = K
  intro hlen hd
  rcases K with _ | ⟨a, _ | ⟨b, _ | ⟨q, r⟩⟩⟩
  · have hl : N.ks.length = 0 := by rw [← hlen]; rfl
    simp [hl, exB, namedB, km_one, km_one0, km_nil, km_opt, km_opt0, ms] <;> grind
  · have hl : N.ks.length = 1 := by rw [← hlen]; rfl
    have k0 : kidK ns N 0 = a := hd 0 (by omega)
    simp [hl, exB, namedB, k0, km_one, km_one0, km_nil, km_opt, km_opt0, ms] <;> grind
  · have hl : N.ks.length = 2 := by rw [← hlen]; rfl
    have k0 : kidK ns N 0 = a := hd 0 (by omega)
    have k1 : kidK ns N 1 = b := hd 1 (by omega)
    simp [hl, exB, namedB, k0, k1, km_one, km_one0, km_nil, km_opt, km_opt0, ms] <;> grind
  · have hl : N.ks.length = r.length + 3 := by rw [← hlen]; rfl
    have k0 : kidK ns N 0 = a := hd 0 (by omega)
    have k1 : kidK ns N 1 = b := hd 1 (by omega)
    have k2 : kidK ns N 2 = q := hd 2 (by omega)
    simp [hl, exB, namedB, k0, k1, k2, km_one, km_one0, km_nil, km_opt, km_opt0, ms] <;> grind
theorem core29 (ns : List Nd) (N : Nd) (hk : N.k = 29) (h2 : N.nm.length ≤ 200) : coreL ns N = seB ns N := by
  have e1 : cls N.k = 6 := by rw [hk]; rfl
  have e3 : seB ns N = (((N.ks.length : Int) == 2) && exB ns N 2 0 && bareB N false false false false) := by
    unfold seB
    rw [if_neg (by rw [hk]; decide)]
    unfold exprB
    rw [if_neg (by rw [hk]; decide), if_neg (by rw [hk]; decide), if_neg (by rw [hk]; decide), if_neg (by rw [hk]; decide), if_neg (by rw [hk]; decide), if_neg (by rw [hk]; decide), if_neg (by rw [hk]; decide), if_neg (by rw [hk]; decide), if_neg (by rw [hk]; decide), if_pos hk]
  have e2 : rowW N.k = some [(3, 0), (3, 0)] := by rw [hk]; rfl
  have e4 : mostN 29 = 1 := rfl
  have e5 : rkB N.k (kinds ns N.ks) = kmatch [(3, 0), (3, 0)] (kinds ns N.ks) := by unfold rkB; rw [e2]
  unfold coreL kfB
  rw [sameB_bare, e1, e3, if_neg (by decide), e5]
  simp only [ffB, txB, hk, e4]
  have hlen := kinds_len ns N.ks
  have hd := getD_kid ns N
  revert hlen hd
  generalize kinds ns N.ks = K
  intro hlen hd
  rcases K with _ | ⟨a, _ | ⟨b, _ | ⟨q, r⟩⟩⟩
  · have hl : N.ks.length = 0 := by rw [← hlen]; rfl
    simp [hl, exB, namedB, km_one, km_one0, km_nil, km_opt, km_opt0, ms] <;> grind
  · have hl : N.ks.length = 1 := by rw [← hlen]; rfl
    have k0 : kidK ns N 0 = a := hd 0 (by omega)
    simp [hl, exB, namedB, k0, km_one, km_one0, km_nil, km_opt, km_opt0, ms] <;> grind
  · have hl : N.ks.length = 2 := by rw [← hlen]; rfl
    have k0 : kidK ns N 0 = a := hd 0 (by omega)
    have k1 : kidK ns N 1 = b := hd 1 (by omega)
    simp [hl, exB, namedB, k0, k1, km_one, km_one0, km_nil, km_opt, km_opt0, ms] <;> grind
  · have hl : N.ks.length = r.length + 3 := by rw [← hlen]; rfl
    have k0 : kidK ns N 0 = a := hd 0 (by omega)
    have k1 : kidK ns N 1 = b := hd 1 (by omega)
    have k2 : kidK ns N 2 = q := hd 2 (by omega)
    simp [hl, exB, namedB, k0, k1, k2, km_one, km_one0, km_nil, km_opt, km_opt0, ms] <;> grind
theorem core32 (ns : List Nd) (N : Nd) (hk : N.k = 32) (h2 : N.nm.length ≤ 200) : coreL ns N = seB ns N := by
  have e1 : cls N.k = 6 := by rw [hk]; rfl
  have e3 : seB ns N = (((N.ks.length : Int) == 2) && exB ns N 2 0 && (kidK ns N 0 != 27) && bareB N false false false false) := by
    unfold seB
    rw [if_neg (by rw [hk]; decide)]
    unfold exprB
    rw [if_neg (by rw [hk]; decide), if_neg (by rw [hk]; decide), if_neg (by rw [hk]; decide), if_neg (by rw [hk]; decide), if_neg (by rw [hk]; decide), if_neg (by rw [hk]; decide), if_neg (by rw [hk]; decide), if_neg (by rw [hk]; decide), if_neg (by rw [hk]; decide), if_neg (by rw [hk]; decide), if_pos hk]
  have e2 : rowW N.k = some [(4, 0), (3, 0)] := by rw [hk]; rfl
  have e4 : mostN 32 = 1 := rfl
  have e5 : rkB N.k (kinds ns N.ks) = kmatch [(4, 0), (3, 0)] (kinds ns N.ks) := by unfold rkB; rw [e2]
  unfold coreL kfB
  rw [sameB_bare, e1, e3, if_neg (by decide), e5]
  simp only [ffB, txB, hk, e4]
  have hlen := kinds_len ns N.ks
  have hd := getD_kid ns N
  revert hlen hd
  generalize kinds ns N.ks = K
  intro hlen hd
  rcases K with _ | ⟨a, _ | ⟨b, _ | ⟨q, r⟩⟩⟩
  · have hl : N.ks.length = 0 := by rw [← hlen]; rfl
    simp [hl, exB, namedB, km_one, km_one0, km_nil, km_opt, km_opt0, ms] <;> grind
  · have hl : N.ks.length = 1 := by rw [← hlen]; rfl
    have k0 : kidK ns N 0 = a := hd 0 (by omega)
    simp [hl, exB, namedB, k0, km_one, km_one0, km_nil, km_opt, km_opt0, ms] <;> grind
  · have hl : N.ks.length = 2 := by rw [← hlen]; rfl
    have k0 : kidK ns N 0 = a := hd 0 (by omega)
    have k1 : kidK ns N 1 = b := hd 1 (by omega)
    simp [hl, exB, namedB, k0, k1, km_one, km_one0, km_nil, km_opt, km_opt0, ms] <;> grind
  · have hl : N.ks.length = r.length + 3 := by rw [← hlen]; rfl
    have k0 : kidK ns N 0 = a := hd 0 (by omega)
    have k1 : kidK ns N 1 = b := hd 1 (by omega)
    have k2 : kidK ns N 2 = q := hd 2 (by omega)
    simp [hl, exB, namedB, k0, k1, k2, km_one, km_one0, km_nil, km_opt, km_opt0, ms] <;> grind
theorem core30 (ns : List Nd) (N : Nd) (hk : N.k = 30) (h2 : N.nm.length ≤ 200) : coreL ns N = seB ns N := by
  have e1 : cls N.k = 4 := by rw [hk]; rfl
  have e3 : seB ns N = (((N.ks.length : Int) == 1) && exB ns N 1 0 && bareB N true false false false && decide ((19 : Int) ≤ N.op) && decide (N.op ≤ 22)) := by
    unfold seB
    rw [if_neg (by rw [hk]; decide)]
    unfold exprB
    rw [if_neg (by rw [hk]; decide), if_neg (by rw [hk]; decide), if_neg (by rw [hk]; decide), if_neg (by rw [hk]; decide), if_neg (by rw [hk]; decide), if_neg (by rw [hk]; decide), if_neg (by rw [hk]; decide), if_neg (by rw [hk]; decide), if_neg (by rw [hk]; decide), if_neg (by rw [hk]; decide), if_neg (by rw [hk]; decide), if_pos hk]
  have e2 : rowW N.k = some [(3, 0)] := by rw [hk]; rfl
  have e4 : mostN 30 = 1 := rfl
  have e5 : rkB N.k (kinds ns N.ks) = kmatch [(3, 0)] (kinds ns N.ks) := by unfold rkB; rw [e2]
  unfold coreL kfB
  rw [sameB_bare, e1, e3, if_neg (by decide), e5]
  simp only [ffB, txB, hk, e4]
  have hlen := kinds_len ns N.ks
  have hd := getD_kid ns N
  revert hlen hd
  generalize kinds ns N.ks = K
  intro hlen hd
  rcases K with _ | ⟨a, _ | ⟨q, r⟩⟩
  · have hl : N.ks.length = 0 := by rw [← hlen]; rfl
    simp [hl, exB, namedB, km_one, km_one0, km_nil, km_opt, km_opt0, ms] <;> grind
  · have hl : N.ks.length = 1 := by rw [← hlen]; rfl
    have k0 : kidK ns N 0 = a := hd 0 (by omega)
    simp [hl, exB, namedB, k0, km_one, km_one0, km_nil, km_opt, km_opt0, ms] <;> grind
  · have hl : N.ks.length = r.length + 2 := by rw [← hlen]; rfl
    have k0 : kidK ns N 0 = a := hd 0 (by omega)
    have k1 : kidK ns N 1 = q := hd 1 (by omega)
    simp [hl, exB, namedB, k0, k1, km_one, km_one0, km_nil, km_opt, km_opt0, ms] <;> grind
theorem core31 (ns : List Nd) (N : Nd) (hk : N.k = 31) (h2 : N.nm.length ≤ 200) : coreL ns N = seB ns N := by
  have e1 : cls N.k = 4 := by rw [hk]; rfl
  have e3 : seB ns N = (((N.ks.length : Int) == 2) && exB ns N 2 0 && bareB N true false false false && decide ((1 : Int) ≤ N.op) && decide (N.op ≤ 18)) := by
    unfold seB
    rw [if_neg (by rw [hk]; decide)]
    unfold exprB
    rw [if_neg (by rw [hk]; decide), if_neg (by rw [hk]; decide), if_neg (by rw [hk]; decide), if_neg (by rw [hk]; decide), if_neg (by rw [hk]; decide), if_neg (by rw [hk]; decide), if_neg (by rw [hk]; decide), if_neg (by rw [hk]; decide), if_neg (by rw [hk]; decide), if_neg (by rw [hk]; decide), if_neg (by rw [hk]; decide), if_neg (by rw [hk]; decide), if_pos hk]
  have e2 : rowW N.k = some [(3, 0), (3, 0)] := by rw [hk]; rfl
  have e4 : mostN 31 = 1 := rfl
  have e5 : rkB N.k (kinds ns N.ks) = kmatch [(3, 0), (3, 0)] (kinds ns N.ks) := by unfold rkB; rw [e2]
  unfold coreL kfB
  rw [sameB_bare, e1, e3, if_neg (by decide), e5]
  simp only [ffB, txB, hk, e4]
  have hlen := kinds_len ns N.ks
  have hd := getD_kid ns N
  revert hlen hd
  generalize kinds ns N.ks = K
  intro hlen hd
  rcases K with _ | ⟨a, _ | ⟨b, _ | ⟨q, r⟩⟩⟩
  · have hl : N.ks.length = 0 := by rw [← hlen]; rfl
    simp [hl, exB, namedB, km_one, km_one0, km_nil, km_opt, km_opt0, ms] <;> grind
  · have hl : N.ks.length = 1 := by rw [← hlen]; rfl
    have k0 : kidK ns N 0 = a := hd 0 (by omega)
    simp [hl, exB, namedB, k0, km_one, km_one0, km_nil, km_opt, km_opt0, ms] <;> grind
  · have hl : N.ks.length = 2 := by rw [← hlen]; rfl
    have k0 : kidK ns N 0 = a := hd 0 (by omega)
    have k1 : kidK ns N 1 = b := hd 1 (by omega)
    simp [hl, exB, namedB, k0, k1, km_one, km_one0, km_nil, km_opt, km_opt0, ms] <;> grind
  · have hl : N.ks.length = r.length + 3 := by rw [← hlen]; rfl
    have k0 : kidK ns N 0 = a := hd 0 (by omega)
    have k1 : kidK ns N 1 = b := hd 1 (by omega)
    have k2 : kidK ns N 2 = q := hd 2 (by omega)
    simp [hl, exB, namedB, k0, k1, k2, km_one, km_one0, km_nil, km_opt, km_opt0, ms] <;> grind
theorem core33 (ns : List Nd) (N : Nd) (hk : N.k = 33) (h2 : N.nm.length ≤ 200) : coreL ns N = seB ns N := by
  have e1 : cls N.k = 3 := by rw [hk]; rfl
  have e3 : seB ns N = (((N.ks.length : Int) == 1) && exB ns N 1 0 && (kidK ns N 0 != 27) && bareB N false false true false && nmok N.x) := by
    unfold seB
    rw [if_neg (by rw [hk]; decide)]
    unfold exprB
    rw [if_neg (by rw [hk]; decide), if_neg (by rw [hk]; decide), if_neg (by rw [hk]; decide), if_neg (by rw [hk]; decide), if_neg (by rw [hk]; decide), if_neg (by rw [hk]; decide), if_neg (by rw [hk]; decide), if_neg (by rw [hk]; decide), if_neg (by rw [hk]; decide), if_neg (by rw [hk]; decide), if_neg (by rw [hk]; decide), if_neg (by rw [hk]; decide), if_neg (by rw [hk]; decide), if_pos hk]
  have e2 : rowW N.k = some [(4, 0)] := by rw [hk]; rfl
  have e4 : mostN 33 = 1 := rfl
  have e5 : rkB N.k (kinds ns N.ks) = kmatch [(4, 0)] (kinds ns N.ks) := by unfold rkB; rw [e2]
  unfold coreL kfB
  rw [sameB_bare, e1, e3, if_neg (by decide), e5]
  simp only [ffB, txB, hk, e4]
  have hlen := kinds_len ns N.ks
  have hd := getD_kid ns N
  revert hlen hd
  generalize kinds ns N.ks = K
  intro hlen hd
  rcases K with _ | ⟨a, _ | ⟨q, r⟩⟩
  · have hl : N.ks.length = 0 := by rw [← hlen]; rfl
    simp [hl, exB, namedB, km_one, km_one0, km_nil, km_opt, km_opt0, ms] <;> grind
  · have hl : N.ks.length = 1 := by rw [← hlen]; rfl
    have k0 : kidK ns N 0 = a := hd 0 (by omega)
    simp [hl, exB, namedB, k0, km_one, km_one0, km_nil, km_opt, km_opt0, ms] <;> grind
  · have hl : N.ks.length = r.length + 2 := by rw [← hlen]; rfl
    have k0 : kidK ns N 0 = a := hd 0 (by omega)
    have k1 : kidK ns N 1 = q := hd 1 (by omega)
    simp [hl, exB, namedB, k0, k1, km_one, km_one0, km_nil, km_opt, km_opt0, ms] <;> grind
theorem core34 (ns : List Nd) (N : Nd) (hk : N.k = 34) (h2 : N.nm.length ≤ 200) : coreL ns N = seB ns N := by
  have e1 : cls N.k = 6 := by rw [hk]; rfl
  have e3 : seB ns N = (decide ((1 : Int) ≤ (N.ks.length : Int)) && exB ns N N.ks.length 0 && (kidK ns N 0 != 27) && bareB N false false false false) := by
    unfold seB
    rw [if_neg (by rw [hk]; decide)]
    unfold exprB
    rw [if_neg (by rw [hk]; decide), if_neg (by rw [hk]; decide), if_neg (by rw [hk]; decide), if_neg (by rw [hk]; decide), if_neg (by rw [hk]; decide), if_neg (by rw [hk]; decide), if_neg (by rw [hk]; decide), if_neg (by rw [hk]; decide), if_neg (by rw [hk]; decide), if_neg (by rw [hk]; decide), if_neg (by rw [hk]; decide), if_neg (by rw [hk]; decide), if_neg (by rw [hk]; decide), if_neg (by rw [hk]; decide), if_pos hk]
  have e2 : rowW N.k = some [(4, 0), (3, 1)] := by rw [hk]; rfl
  have e4 : mostN 34 = 1 := rfl
  have e5 : rkB N.k (kinds ns N.ks) = kmatch [(4, 0), (3, 1)] (kinds ns N.ks) := by unfold rkB; rw [e2]
  unfold coreL kfB
  rw [sameB_bare, e1, e3, if_neg (by decide), e5]
  simp only [ffB, txB, hk, e4]
  have hlen := kinds_len ns N.ks
  have hd := getD_kid ns N
  have hx := ex_all ns N
  have hs := sb_all ns N
  have he := en_all ns N
  revert hlen hd hx
  generalize kinds ns N.ks = K
  intro hlen hd hx
  rcases K with _ | ⟨a, r⟩
  · simp at hlen
    simp [km_one0, ← hlen]
  · have k0 : kidK ns N 0 = a := hd 0 (by rw [← hlen]; simp)
    have h0 := hx N.ks.length 0 (by omega)
    rw [← hlen, List.drop_zero, List.take_length, List.all_cons] at h0
    rw [km_one, km_star, ← hlen, h0, k0]
    have hl1 : decide ((1 : Int) ≤ (((a :: r).length : Nat) : Int)) = true := decide_eq_true (by simp; omega)
    rw [hl1]
    simp only [ms]
    generalize bareB N false false false false = B
    have e9 : r.all (ms 3) = r.all exprK := rfl
    rw [e9]
    generalize exprK a = x
    generalize (a != 27) = y
    generalize r.all exprK = z
    cases B <;> cases x <;> cases y <;> cases z <;> rfl
theorem core35 (ns : List Nd) (N : Nd) (hk : N.k = 35) (h2 : N.nm.length ≤ 200) : coreL ns N = seB ns N := by
  have e1 : cls N.k = 6 := by rw [hk]; rfl
  have e3 : seB ns N = (enB ns N N.ks.length 0 && bareB N false false false false) := by
    unfold seB
    rw [if_neg (by rw [hk]; decide)]
    unfold exprB
    rw [if_neg (by rw [hk]; decide), if_neg (by rw [hk]; decide), if_neg (by rw [hk]; decide), if_neg (by rw [hk]; decide), if_neg (by rw [hk]; decide), if_neg (by rw [hk]; decide), if_neg (by rw [hk]; decide), if_neg (by rw [hk]; decide), if_neg (by rw [hk]; decide), if_neg (by rw [hk]; decide), if_neg (by rw [hk]; decide), if_neg (by rw [hk]; decide), if_neg (by rw [hk]; decide), if_neg (by rw [hk]; decide), if_neg (by rw [hk]; decide), if_pos hk]
  have e2 : rowW N.k = some [(9, 1)] := by rw [hk]; rfl
  have e4 : mostN 35 = 1 := rfl
  have e5 : rkB N.k (kinds ns N.ks) = kmatch [(9, 1)] (kinds ns N.ks) := by unfold rkB; rw [e2]
  unfold coreL kfB
  rw [sameB_bare, e1, e3, if_neg (by decide), e5]
  simp only [ffB, txB, hk, e4]
  have hlen := kinds_len ns N.ks
  have hd := getD_kid ns N
  have hx := ex_all ns N
  have hs := sb_all ns N
  have he := en_all ns N
  have h0 := he N.ks.length 0 (by omega)
  rw [← hlen] at h0
  rw [List.drop_zero, List.take_length] at h0
  rw [km_star, ← hlen, h0]
  have e9 : (kinds ns N.ks).all (ms 9) = (kinds ns N.ks).all (ms 9) := rfl
  rw [e9]
  generalize (kinds ns N.ks).all (ms 9) = z
  generalize bareB N false false false false = B
  cases B <;> cases z <;> rfl
theorem core36 (ns : List Nd) (N : Nd) (hk : N.k = 36) (h2 : N.nm.length ≤ 200) : coreL ns N = seB ns N := by
  have e1 : cls N.k = 5 := by rw [hk]; rfl
  have e3 : seB ns N = (((N.ks.length : Int) == 1) && (kidK ns N 0 == 1) && bareB N true false false true && namedB N 0 200 && (N.op == 0 || N.op == 1)) := by
    unfold seB
    rw [if_neg (by rw [hk]; decide)]
    unfold exprB
    rw [if_neg (by rw [hk]; decide), if_neg (by rw [hk]; decide), if_neg (by rw [hk]; decide), if_neg (by rw [hk]; decide), if_neg (by rw [hk]; decide), if_neg (by rw [hk]; decide), if_neg (by rw [hk]; decide), if_neg (by rw [hk]; decide), if_neg (by rw [hk]; decide), if_neg (by rw [hk]; decide), if_neg (by rw [hk]; decide), if_neg (by rw [hk]; decide), if_neg (by rw [hk]; decide), if_neg (by rw [hk]; decide), if_neg (by rw [hk]; decide), if_neg (by rw [hk]; decide), if_pos hk]
  have e2 : rowW N.k = some [(1, 0)] := by rw [hk]; rfl
  have e4 : mostN 36 = 1 := rfl
  have e5 : rkB N.k (kinds ns N.ks) = kmatch [(1, 0)] (kinds ns N.ks) := by unfold rkB; rw [e2]
  unfold coreL kfB
  rw [sameB_bare, e1, e3, if_neg (by decide), e5]
  simp only [ffB, txB, hk, e4]
  have hlen := kinds_len ns N.ks
  have hd := getD_kid ns N
  revert hlen hd
  generalize kinds ns N.ks = K
  intro hlen hd
  rcases K with _ | ⟨a, _ | ⟨q, r⟩⟩
  · have hl : N.ks.length = 0 := by rw [← hlen]; rfl
    simp [hl, exB, namedB, km_one, km_one0, km_nil, km_opt, km_opt0, ms] <;> grind
  · have hl : N.ks.length = 1 := by rw [← hlen]; rfl
    have k0 : kidK ns N 0 = a := hd 0 (by omega)
    simp [hl, exB, namedB, k0, km_one, km_one0, km_nil, km_opt, km_opt0, ms] <;> grind
  · have hl : N.ks.length = r.length + 2 := by rw [← hlen]; rfl
    have k0 : kidK ns N 0 = a := hd 0 (by omega)
    have k1 : kidK ns N 1 = q := hd 1 (by omega)
    simp [hl, exB, namedB, k0, k1, km_one, km_one0, km_nil, km_opt, km_opt0, ms] <;> grind
theorem core37 (ns : List Nd) (N : Nd) (hk : N.k = 37) (h2 : N.nm.length ≤ 200) : coreL ns N = seB ns N := by
  have e1 : cls N.k = 6 := by rw [hk]; rfl
  have e3 : seB ns N = (((N.ks.length : Int) == 1) && (kidK ns N 0 == 34 || kidK ns N 0 == 27) && bareB N false false false false) := by
    unfold seB
    rw [if_neg (by rw [hk]; decide)]
    unfold exprB
    rw [if_neg (by rw [hk]; decide), if_neg (by rw [hk]; decide), if_neg (by rw [hk]; decide), if_neg (by rw [hk]; decide), if_neg (by rw [hk]; decide), if_neg (by rw [hk]; decide), if_neg (by rw [hk]; decide), if_neg (by rw [hk]; decide), if_neg (by rw [hk]; decide), if_neg (by rw [hk]; decide), if_neg (by rw [hk]; decide), if_neg (by rw [hk]; decide), if_neg (by rw [hk]; decide), if_neg (by rw [hk]; decide), if_neg (by rw [hk]; decide), if_neg (by rw [hk]; decide), if_neg (by rw [hk]; decide), if_pos hk]
  have e2 : rowW N.k = some [(7, 0)] := by rw [hk]; rfl
  have e4 : mostN 37 = 1 := rfl
  have e5 : rkB N.k (kinds ns N.ks) = kmatch [(7, 0)] (kinds ns N.ks) := by unfold rkB; rw [e2]
  unfold coreL kfB
  rw [sameB_bare, e1, e3, if_neg (by decide), e5]
  simp only [ffB, txB, hk, e4]
  have hlen := kinds_len ns N.ks
  have hd := getD_kid ns N
  revert hlen hd
  generalize kinds ns N.ks = K
  intro hlen hd
  rcases K with _ | ⟨a, _ | ⟨q, r⟩⟩
  · have hl : N.ks.length = 0 := by rw [← hlen]; rfl
    simp [hl, exB, namedB, km_one, km_one0, km_nil, km_opt, km_opt0, ms] <;> grind
  · have hl : N.ks.length = 1 := by rw [← hlen]; rfl
    have k0 : kidK ns N 0 = a := hd 0 (by omega)
    simp [hl, exB, namedB, k0, km_one, km_one0, km_nil, km_opt, km_opt0, ms] <;> grind
  · have hl : N.ks.length = r.length + 2 := by rw [← hlen]; rfl
    have k0 : kidK ns N 0 = a := hd 0 (by omega)
    have k1 : kidK ns N 1 = q := hd 1 (by omega)
    simp [hl, exB, namedB, k0, k1, km_one, km_one0, km_nil, km_opt, km_opt0, ms] <;> grind
theorem core40 (ns : List Nd) (N : Nd) (hk : N.k = 40) (h2 : N.nm.length ≤ 200) : coreL ns N = seB ns N := by
  have e1 : cls N.k = 6 := by rw [hk]; rfl
  have e3 : seB ns N = (((N.ks.length : Int) == 1) && exB ns N 1 0 && bareB N false false false false) := by
    unfold seB
    rw [if_neg (by rw [hk]; decide)]
    unfold exprB
    rw [if_neg (by rw [hk]; decide), if_neg (by rw [hk]; decide), if_neg (by rw [hk]; decide), if_neg (by rw [hk]; decide), if_neg (by rw [hk]; decide), if_neg (by rw [hk]; decide), if_neg (by rw [hk]; decide), if_neg (by rw [hk]; decide), if_neg (by rw [hk]; decide), if_neg (by rw [hk]; decide), if_neg (by rw [hk]; decide), if_neg (by rw [hk]; decide), if_neg (by rw [hk]; decide), if_neg (by rw [hk]; decide), if_neg (by rw [hk]; decide), if_neg (by rw [hk]; decide), if_neg (by rw [hk]; decide), if_neg (by rw [hk]; decide), if_pos hk]
  have e2 : rowW N.k = some [(3, 0)] := by rw [hk]; rfl
  have e4 : mostN 40 = 1 := rfl
  have e5 : rkB N.k (kinds ns N.ks) = kmatch [(3, 0)] (kinds ns N.ks) := by unfold rkB; rw [e2]
  unfold coreL kfB
  rw [sameB_bare, e1, e3, if_neg (by decide), e5]
  simp only [ffB, txB, hk, e4]
  have hlen := kinds_len ns N.ks
  have hd := getD_kid ns N
  revert hlen hd
  generalize kinds ns N.ks = K
  intro hlen hd
  rcases K with _ | ⟨a, _ | ⟨q, r⟩⟩
  · have hl : N.ks.length = 0 := by rw [← hlen]; rfl
    simp [hl, exB, namedB, km_one, km_one0, km_nil, km_opt, km_opt0, ms] <;> grind
  · have hl : N.ks.length = 1 := by rw [← hlen]; rfl
    have k0 : kidK ns N 0 = a := hd 0 (by omega)
    simp [hl, exB, namedB, k0, km_one, km_one0, km_nil, km_opt, km_opt0, ms] <;> grind
  · have hl : N.ks.length = r.length + 2 := by rw [← hlen]; rfl
    have k0 : kidK ns N 0 = a := hd 0 (by omega)
    have k1 : kidK ns N 1 = q := hd 1 (by omega)
    simp [hl, exB, namedB, k0, k1, km_one, km_one0, km_nil, km_opt, km_opt0, ms] <;> grind
theorem core41 (ns : List Nd) (N : Nd) (hk : N.k = 41) (h2 : N.nm.length ≤ 200) : coreL ns N = seB ns N := by
  have e1 : cls N.k = 6 := by rw [hk]; rfl
  have e3 : seB ns N = (((N.ks.length : Int) == 2) && exB ns N 2 0 && bareB N false false false false) := by
    unfold seB
    rw [if_neg (by rw [hk]; decide)]
    unfold exprB
    rw [if_neg (by rw [hk]; decide), if_neg (by rw [hk]; decide), if_neg (by rw [hk]; decide), if_neg (by rw [hk]; decide), if_neg (by rw [hk]; decide), if_neg (by rw [hk]; decide), if_neg (by rw [hk]; decide), if_neg (by rw [hk]; decide), if_neg (by rw [hk]; decide), if_neg (by rw [hk]; decide), if_neg (by rw [hk]; decide), if_neg (by rw [hk]; decide), if_neg (by rw [hk]; decide), if_neg (by rw [hk]; decide), if_neg (by rw [hk]; decide), if_neg (by rw [hk]; decide), if_neg (by rw [hk]; decide), if_neg (by rw [hk]; decide), if_neg (by rw [hk]; decide), if_pos hk]
  have e2 : rowW N.k = some [(3, 0), (3, 0)] := by rw [hk]; rfl
  have e4 : mostN 41 = 1 := rfl
  have e5 : rkB N.k (kinds ns N.ks) = kmatch [(3, 0), (3, 0)] (kinds ns N.ks) := by unfold rkB; rw [e2]
  unfold coreL kfB
  rw [sameB_bare, e1, e3, if_neg (by decide), e5]
  simp only [ffB, txB, hk, e4]
  have hlen := kinds_len ns N.ks
  have hd := getD_kid ns N
  revert hlen hd
  generalize kinds ns N.ks = K
  intro hlen hd
  rcases K with _ | ⟨a, _ | ⟨b, _ | ⟨q, r⟩⟩⟩
  · have hl : N.ks.length = 0 := by rw [← hlen]; rfl
    simp [hl, exB, namedB, km_one, km_one0, km_nil, km_opt, km_opt0, ms] <;> grind
  · have hl : N.ks.length = 1 := by rw [← hlen]; rfl
    have k0 : kidK ns N 0 = a := hd 0 (by omega)
    simp [hl, exB, namedB, k0, km_one, km_one0, km_nil, km_opt, km_opt0, ms] <;> grind
  · have hl : N.ks.length = 2 := by rw [← hlen]; rfl
    have k0 : kidK ns N 0 = a := hd 0 (by omega)
    have k1 : kidK ns N 1 = b := hd 1 (by omega)
    simp [hl, exB, namedB, k0, k1, km_one, km_one0, km_nil, km_opt, km_opt0, ms] <;> grind
  · have hl : N.ks.length = r.length + 3 := by rw [← hlen]; rfl
    have k0 : kidK ns N 0 = a := hd 0 (by omega)
    have k1 : kidK ns N 1 = b := hd 1 (by omega)
    have k2 : kidK ns N 2 = q := hd 2 (by omega)
    simp [hl, exB, namedB, k0, k1, k2, km_one, km_one0, km_nil, km_opt, km_opt0, ms] <;> grind
theorem core42 (ns : List Nd) (N : Nd) (hk : N.k = 42) (h2 : N.nm.length ≤ 200) : coreL ns N = seB ns N := by
  have e1 : cls N.k = 3 := by rw [hk]; rfl
  have e3 : seB ns N = (((N.ks.length : Int) == 1) && exB ns N 1 0 && bareB N false false true false && nmok N.x) := by
    unfold seB
    rw [if_neg (by rw [hk]; decide)]
    unfold exprB
    rw [if_neg (by rw [hk]; decide), if_neg (by rw [hk]; decide), if_neg (by rw [hk]; decide), if_neg (by rw [hk]; decide), if_neg (by rw [hk]; decide), if_neg (by rw [hk]; decide), if_neg (by rw [hk]; decide), if_neg (by rw [hk]; decide), if_neg (by rw [hk]; decide), if_neg (by rw [hk]; decide), if_neg (by rw [hk]; decide), if_neg (by rw [hk]; decide), if_neg (by rw [hk]; decide), if_neg (by rw [hk]; decide), if_neg (by rw [hk]; decide), if_neg (by rw [hk]; decide), if_neg (by rw [hk]; decide), if_neg (by rw [hk]; decide), if_neg (by rw [hk]; decide), if_neg (by rw [hk]; decide), if_pos hk]
  have e2 : rowW N.k = some [(3, 0)] := by rw [hk]; rfl
  have e4 : mostN 42 = 1 := rfl
  have e5 : rkB N.k (kinds ns N.ks) = kmatch [(3, 0)] (kinds ns N.ks) := by unfold rkB; rw [e2]
  unfold coreL kfB
  rw [sameB_bare, e1, e3, if_neg (by decide), e5]
  simp only [ffB, txB, hk, e4]
  have hlen := kinds_len ns N.ks
  have hd := getD_kid ns N
  revert hlen hd
  generalize kinds ns N.ks = K
  intro hlen hd
  rcases K with _ | ⟨a, _ | ⟨q, r⟩⟩
  · have hl : N.ks.length = 0 := by rw [← hlen]; rfl
    simp [hl, exB, namedB, km_one, km_one0, km_nil, km_opt, km_opt0, ms] <;> grind
  · have hl : N.ks.length = 1 := by rw [← hlen]; rfl
    have k0 : kidK ns N 0 = a := hd 0 (by omega)
    simp [hl, exB, namedB, k0, km_one, km_one0, km_nil, km_opt, km_opt0, ms] <;> grind
  · have hl : N.ks.length = r.length + 2 := by rw [← hlen]; rfl
    have k0 : kidK ns N 0 = a := hd 0 (by omega)
    have k1 : kidK ns N 1 = q := hd 1 (by omega)
    simp [hl, exB, namedB, k0, k1, km_one, km_one0, km_nil, km_opt, km_opt0, ms] <;> grind

theorem core5 (ns : List Nd) (N : Nd) (hk : N.k = 5) (h2 : N.nm.length ≤ 200) : coreL ns N = seB ns N := by
  have e1 : cls N.k = 1 := by rw [hk]; rfl
  have e3 : seB ns N = (bareB N false true false false && (decide (1 ≤ N.n ∧ N.n < (N.ks.length : Int)) && (tgB ns N N.n.toNat 0 && exB ns N (N.ks.length - N.n.toNat) N.n.toNat))) := by
    unfold seB
    rw [if_pos (by rw [hk]; rfl)]
    unfold stB
    rw [if_neg (by rw [hk]; decide), if_neg (by rw [hk]; decide), if_neg (by rw [hk]; decide), if_neg (by rw [hk]; decide), if_pos hk]
  unfold coreL kfB
  rw [sameB_bare, e1, e3, if_pos rfl]
  simp only [ffB]
  by_cases h : 1 ≤ N.n ∧ N.n < (N.ks.length : Int)
  · rw [decide_eq_true h, Bool.true_and, Bool.true_and, km_set _ _ (by rw [kinds_len]; omega), tg_all ns N _ _ (by omega), ex_all ns N _ _ (by omega)]
    congr 1
    congr 1
    · rw [List.drop_zero]
      congr 1
      funext k
      exact targ_ms k
    · have : (kinds ns N.ks).drop N.n.toNat = ((kinds ns N.ks).drop N.n.toNat).take (N.ks.length - N.n.toNat) := by
        rw [List.take_of_length_le (by rw [List.length_drop, kinds_len]; exact Nat.le_refl _)]
      rw [← this]
      rfl
  · rw [decide_eq_false h, Bool.false_and, Bool.false_and]
theorem coreNo (ns : List Nd) (N : Nd) (h : N.k ∉ knownL) (h5 : N.k ≠ 5) : coreL ns N = seB ns N := by
  have hr := (rowW_no N.k h).1
  simp only [knownL, List.mem_cons, List.not_mem_nil, or_false, not_or] at h
  have hs : statK N.k = false := by unfold statK; exact decide_eq_false (by omega)
  have e3 : seB ns N = false := by
    unfold seB
    rw [if_neg (by rw [hs]; decide)]
    unfold exprB
    rw [if_neg (by omega), if_neg (by omega), if_neg (by omega), if_neg (by omega), if_neg (by omega), if_neg (by omega), if_neg (by omega), if_neg (by omega), if_neg (by omega), if_neg (by omega), if_neg (by omega), if_neg (by omega), if_neg (by omega), if_neg (by omega), if_neg (by omega), if_neg (by omega), if_neg (by omega), if_neg (by omega), if_neg (by omega), if_neg (by omega), if_neg (by omega)]
  have e1 : cls N.k = 6 := by
    unfold cls
    rw [if_neg (by omega), if_neg (by omega), if_neg (by omega), if_neg (by omega), if_neg (by omega), if_neg (by omega)]
  have e5 : rkB N.k (kinds ns N.ks) = false := by unfold rkB; rw [hr]
  unfold coreL kfB
  rw [e3, e1, if_neg (by decide), e5, Bool.and_false, Bool.and_false]
theorem core_any (ns : List Nd) (N : Nd) (h2 : N.nm.length ≤ 200) : coreL ns N = seB ns N := by
  by_cases h : N.k ∈ knownL
  · have h' := h
    simp only [knownL, List.mem_cons, List.not_mem_nil, or_false] at h'
    rcases h' with h | h | h | h | h | h | h | h | h | h | h | h | h | h | h | h | h | h | h | h | h | h | h | h | h | h | h | h | h | h | h | h | h | h | h | h
    · exact core1 ns N h h2
    · exact core2 ns N h h2
    · exact core3 ns N h h2
    · exact core4 ns N h h2
    · exact core6 ns N h h2
    · exact core7 ns N h h2
    · exact core8 ns N h h2
    · exact core9 ns N h h2
    · exact core10 ns N h h2
    · exact core11 ns N h h2
    · exact core12 ns N h h2
    · exact core13 ns N h h2
    · exact core14 ns N h h2
    · exact core15 ns N h h2
    · exact core16 ns N h h2
    · exact core20 ns N h h2
    · exact core21 ns N h h2
    · exact core22 ns N h h2
    · exact core23 ns N h h2
    · exact core24 ns N h h2
    · exact core25 ns N h h2
    · exact core26 ns N h h2
    · exact core27 ns N h h2
    · exact core28 ns N h h2
    · exact core29 ns N h h2
    · exact core30 ns N h h2
    · exact core31 ns N h h2
    · exact core32 ns N h h2
    · exact core33 ns N h h2
    · exact core34 ns N h h2
    · exact core35 ns N h h2
    · exact core36 ns N h h2
    · exact core37 ns N h h2
    · exact core40 ns N h h2
    · exact core41 ns N h h2
    · exact core42 ns N h h2
  · by_cases h5 : N.k = 5
    · exact core5 ns N h5 h2
    · exact coreNo ns N h h5
/-- With more than 200 names no node is as the tables say. -/
theorem many_names (ns : List Nd) (N : Nd) (h2 : 200 < N.nm.length) : seB ns N = false := by
  have hb : ∀ a b c, bareB N a b c false = false := fun a b c => by unfold bareB; rw [decide_eq_false (by omega)]; simp
  have hn : ∀ l m, m ≤ 200 → namedB N l m = false := fun l m hm => by unfold namedB; rw [decide_eq_false (by omega)]; rfl
  have n1 := hn 1 1 (by omega)
  have n2 := hn 1 2 (by omega)
  have n3 := hn 1 200 (by omega)
  have n4 := hn 0 200 (by omega)
  unfold seB
  split
  · unfold stB
    simp only [hb, n1, n2, n3, Bool.false_and, Bool.and_false]
    simp
  · unfold exprB
    simp only [hb, n4, Bool.false_and, Bool.and_false]
    simp
/-- What add answers is what the model's tables say. -/
theorem addB_eq (ns : List Nd) (i : Nat) (N : Nd) : addB ns i N = nodeB ns i N := by
  unfold addB nodeB
  by_cases h2 : N.nm.length ≤ 200
  · have hf : fldI N = fldB N := by
      unfold fldI fldB
      by_cases h : 0 ≤ N.f ∧ N.f ≤ N.t ∧ 0 ≤ N.l ∧ N.ks.length ≤ 200
      · rw [decide_eq_true h, decide_eq_true ⟨h.1, h.2.1, h.2.2.1, h.2.2.2, h2⟩]
      · rw [decide_eq_false h, decide_eq_false (fun g => h ⟨g.1, g.2.1, g.2.2.1, g.2.2.2.1⟩)]
    have hc := core_any ns N h2
    unfold coreL at hc
    rw [hf, ← hc]
    generalize sameB (rowN N (cls N.k)) N = a
    generalize klB N.ks i N.ks.length 0 = b
    cases a <;> cases b <;> rfl
  · have hf : fldI N = false := by unfold fldI; exact decide_eq_false (fun g => h2 g.2.2.2.2)
    rw [hf, many_names ns N (by omega), Bool.false_and, Bool.and_false, Bool.and_false]
end Go.Proofs.YtdgbmihokecmhaaGreatDoor
