/- Joined: NodPr9v, RefVot, RefVot2. -/
import Derived.Test.YtngmeaaglogieabGreatNear74
import Derived.Test.YtngmeaaglogieabGreatVotOps
namespace Go.Proofs.YtngmeaaglogieabGreat
open Go.RowKit

theorem nd_he (n : Nd) (v : Value) : ∀ j, j < 4 → ndF n v (0 + 51 + j) = iV (n.he j) := fun j hj => by
  have := ndF_he n v hj
  rw [Nat.mul_one] at this
  exact this
/-- The votes, of the first x nodes reckoned. -/
def vtF (n : Nd) (l : List Ms) (x j : Nat) : Value := iV (if j < x then judV n l j else n.he j)
theorem vt_zero (n : Nd) (l : List Ms) : ∀ j, j < 4 → iV (n.he j) = vtF n l 0 j := fun j _ => by unfold vtF; rw [if_neg (by omega)]
theorem vt_next (n : Nd) (l : List Ms) (x : Nat) : ∀ j, j < 4 → stW (vtF n l x) (0 + x * 1) (.int .i64 (tkn n l x (n.he x) x 4)) j = vtF n l (x + 1) j := by
  intro j _
  unfold stW
  rw [show 0 + x * 1 = x by omega]
  by_cases e : j = x
  · subst e
    rw [if_pos rfl]
    unfold vtF
    rw [if_pos (by omega)]
    rfl
  · rw [if_neg e]
    unfold vtF
    by_cases c : j < x
    · rw [if_pos c, if_pos (by omega)]
    · rw [if_neg c, if_neg (by omega)]
theorem vt_four (n : Nd) (l : List Ms) : ∀ j, j < 4 → vtF n l 4 j = iV (judV n l j) := fun j hj => by
  unfold vtF
  rw [if_pos hj]
set_option maxHeartbeats 2000000 in
theorem votes_any2 (n : Nd) (nv : Value) (mo : Option Addr) (L : List Lm) (I : Nat) (w : World) (hok : NdOK n) (hI : n.id = (I : Int)) (hI4 : I < 4) (hmr : MRd w mo L) (hRL : ∀ m, m ∈ L → ∀ i, R64 (gL m.m.L i)) :
    Calls Tryz.prog 24 #[ndV n nv, agV (hrO n.id n.fr L 2 ((4 : Nat) : Int)) 0 4] w fun e w' => e = .returned (agV (fun j => iV (judV n (L.map Lm.m) j)) 0 4) ∧ Below w.heap.size w w' := by
  refine enterF Tryz.func24 rfl 27 rfl (of_decide_eq_true rfl) (fun A hs hd hb => ?_)
  have b0 : A.eval (.tmp 0) = ndV n nv := hb 0 _ rfl
  have b1 : A.eval (.tmp 1) = agV (hrO n.id n.fr L 2 ((4 : Nat) : Int)) 0 4 := hb 1 _ rfl
  clear hb
  refine c_rs (m_start ?_)
  refine m_do rfl (wanted_rd rfl) (fun K hK => ?_)
  refine wp_boxG _ _ _ rfl (ev_out rfl b0) (of_decide_eq_true rfl) ?_
  intro w1 m1 k1 z1
  refine hK _ _ ?_
  clear hK K
  refine m_do rfl (wanted_rd rfl) (fun K hK => ?_)
  refine wp_boxG _ _ _ rfl (ev_out rfl b1) (of_decide_eq_true rfl) ?_
  intro w2 m2 k2 z2
  have mn2 := m1.below k2
  refine hK _ _ ?_
  clear hK K
  refine m_do rfl (wanted_rd rfl) (fun K hK => ?_)
  refine wp_allocG _ _ rfl zero4i (of_decide_eq_true rfl) ?_
  intro w3 m3 k3 z3
  have mn3 := mn2.below k3
  have mh3 := m2.below k3
  refine hK _ _ ?_
  clear hK K
  refine l_nx ?_
  refine c_rs ?_
  refine m_mv rfl (wanted_rd rfl) (fldNd6 rfl (ev_in rfl (by omega)) _) ?_
  refine m_mv rfl (wanted_rd rfl) (run_loadPe (h := fun j => iV (n.he j)) _ _ rfl many4 (ev_in rfl (by omega)) mn3 (by decide) (nd_he n nv)) ?_
  refine m_do rfl (wanted_rd rfl) (fun K hK => ?_)
  refine wp_allocG _ _ rfl zero4i (of_decide_eq_true rfl) ?_
  intro w4 m4 k4 z4
  have mn4 := mn3.below k4
  have mh4 := mh3.below k4
  have mr4 := m3.below k4
  refine hK _ _ ?_
  clear hK K
  refine m_st (wanted_rd rfl) (fun K hK => ?_)
  refine wp_storeP _ _ _ _ rfl many4 (ev_in rfl (by omega)) (ev_in rfl (by omega)) m4 (by decide) (fun j hj => rfl) rfl ?_
  intro w5 mm5 k5 z5
  have ml5 := Vh.congr mm5 (stP_all4 _ _)
  have mn5 := mn4.kept k5 (by omega)
  have mh5 := mh4.kept k5 (by omega)
  have mr5 := mr4.kept k5 (by omega)
  refine hK _ ?_
  clear hK K
  refine l_nx ?_
  refine c_nx ?_
  refine c_rs ?_
  refine m_mv rfl (wanted_rd rfl) (fldNd6 rfl (ev_in rfl (by omega)) _) ?_
  refine m_mv rfl (wanted_rd rfl) (run_loadPe (h := fun j => iV (n.he j)) _ _ rfl many4 (ev_in rfl (by omega)) mn5 (by decide) (nd_he n nv)) ?_
  refine m_mv rfl (wanted_rd rfl) (run_move _ rfl (ev_const _ _) _) ?_
  refine l_nx ?_
  refine c_block ?_
  refine c_loop (fun q a W => ∃ i : Nat, i ≤ 4 ∧ 4 - i ≤ q ∧ a.tmps.size = 27 ∧ a.defers = [] ∧ a.eval (.tmp 2) = .pointer (some ⟨w.heap.size, 0, none⟩) ∧ a.eval (.tmp 3) = .pointer (some ⟨w1.heap.size, 0, none⟩) ∧ a.eval (.tmp 4) = .pointer (some ⟨w2.heap.size, 0, none⟩) ∧ a.eval (.tmp 5) = .pointer (some ⟨w3.heap.size, 0, none⟩) ∧ a.eval (.tmp 11) = agV (fun j => iV (n.he j)) 0 4 ∧ a.eval (.tmp 12) = .int .i64 (i : Int) ∧ Vh 37 W w.heap.size 74 74 (ndF n nv) ∧ Vh 59 W w1.heap.size 4 4 (hrO n.id n.fr L 2 ((4 : Nat) : Int)) ∧ Vh 28 W w2.heap.size 4 4 (fun _ => iV 0) ∧ Vh 28 W w3.heap.size 4 4 (vtF n (L.map Lm.m) i) ∧ Below w.heap.size w W ∧ w5.heap.size ≤ W.heap.size) 4 ⟨0, by omega, by omega, (szL _ _).trans hs, (defL _ _).trans hd, (ev_in rfl (by omega)), (ev_in rfl (by omega)), (ev_in rfl (by omega)), (ev_in rfl (by omega)), (ev_in rfl (by omega)), (ev_in rfl (by omega)), mn5, mh5, mr5, Vh.congr ml5 (vt_zero n (L.map Lm.m)), below_of_kept ((((k1).trans (k2.mono (by omega))).trans (k3.mono (by omega))).trans (k4.mono (by omega))) k5 (by omega) (by omega), by omega⟩ (fun q B W hI2 => ?_)
  clear b0 b1 hs hd
  obtain ⟨i, hi, hr2, hs, hd, b2, b3, b4, b5, b11, b12, mn, mh, mr, ml, kB, hW⟩ := hI2
  by_cases hin : i < 4
  · refine c_rs (m_start ?_)
    refine m_mv rfl (wanted_rd rfl) (run_lssI (b := true) _ _ rfl (ev_out rfl b12) (ev_const _ _) (decide_eq_true (by omega)) _) ?_
    refine l_nx ?_
    refine c_nx (c_true (ev_in rfl (by omega)) (c_fin ?_))
    refine c_nx (c_block ?_)
    refine c_rs ?_
    refine m_mv rfl (wanted_rd rfl) (run_move _ rfl (ev_out rfl b12) _) ?_
    refine m_mv rfl (wanted_rd rfl) (run_ixV1 _ _ _ _ rfl Tryz.underlying28 oneI (ev_out rfl b11) (ev_out rfl b12) rfl hin _) ?_
    refine m_mv rfl (wanted_rd rfl) (run_assign _ rfl (ev_in rfl (by omega)) _) ?_
    refine m_mv rfl (wanted_rd rfl) (run_assign _ rfl (ev_in rfl (by omega)) _) ?_
    refine l_nx ?_
    refine c_region ?_
    refine m_mv rfl (wanted_rd rfl) (run_move _ rfl (ev_in rfl (by omega)) _) ?_
    refine m_mv rfl (wanted_rd rfl) (run_loadP _ _ rfl manyHr (ev_out rfl b3) mh (by decide)) ?_
    refine m_mv rfl (wanted_rd rfl) (fldNd0 rfl (ev_out rfl b2) _) ?_
    refine m_mv rfl (wanted_rd rfl) (run_lod1 _ _ rfl oneI (ev_in rfl (by omega)) mn (by decide) rfl) ?_
    refine m_mv rfl (wanted_rd rfl) (run_move _ rfl (ev_in rfl (by omega)) _) ?_
    refine m_mv rfl (wanted_rd rfl) (run_move _ rfl (ev_in rfl (by omega)) _) ?_
    refine m_mv rfl (wanted_rd rfl) (run_move _ rfl (ev_in rfl (by omega)) _) ?_
    refine m_do rfl (wanted_rd rfl) (fun K hK => ?_)
    refine wp_call5 _ 32 _ _ _ _ _ _ rfl (ev_in rfl (by omega)) (ev_in rfl (by omega)) (ev_in rfl (by omega)) (ev_in rfl (by omega)) (ev_in rfl (by omega)) (enter_htaken _ _ _ _ _ _) (heardTaken_any n mo L I i (n.he i) i 4 _ hI hI4 hin (by omega) (hok.he i) (hmr.below kB) hRL) ?_
    rintro e w11 ⟨rfl, k11⟩
    have n11 := k11.size
    have mn11 := mn.below k11
    have mh11 := mh.below k11
    have mr11 := mr.below k11
    have ml11 := ml.below k11
    refine ⟨_, rfl, ?_⟩
    refine hK _ _ ?_
    clear hK K
    refine m_mv rfl (wanted_rd rfl) (run_ixG _ _ _ _ rfl Tryz.underlying28 oneI.size (ev_out rfl b5) (ev_in rfl (by omega)) rfl hin _) ?_
    refine m_st (wanted_rd rfl) (fun K hK => ?_)
    refine wp_sto1 _ _ _ _ rfl oneI (ev_in rfl (by omega)) (ev_in rfl (by omega)) ml11 (by omega) rfl rfl rfl ?_
    intro w12 mm12 k12 z12
    have ml12 := Vh.congr mm12 (vt_next n (L.map Lm.m) i)
    have mn12 := mn11.kept k12 (by omega)
    have mh12 := mh11.kept k12 (by omega)
    have mr12 := mr11.kept k12 (by omega)
    refine hK _ ?_
    clear hK K
    refine l_finB ?_
    refine c_region ?_
    refine m_mv rfl (wanted_rd rfl) (run_addI _ _ rfl (ev_out rfl b12) (ev_const _ _) (by omega) (by omega) _) ?_
    refine m_mv rfl (wanted_rd rfl) (run_move _ rfl (ev_in rfl (by omega)) _) ?_
    exact l_round ⟨4 - (i + 1), by omega, i + 1, by omega, by omega, (szL _ _).trans hs, (defL _ _).trans hd, (ev_out rfl b2), (ev_out rfl b3), (ev_out rfl b4), (ev_out rfl b5), (ev_out rfl b11), (ev_in rfl (by omega)).trans (by rw [Int.natCast_add]; rfl), mn12, mh12, mr12, ml12, below_of_kept (kB.trans (k11.mono (by omega))) k12 (by omega) (by omega), by omega⟩
  · refine c_rs (m_start ?_)
    refine m_mv rfl (wanted_rd rfl) (run_lssI (b := false) _ _ rfl (ev_out rfl b12) (ev_const _ _) (decide_eq_false (by omega)) _) ?_
    obtain rfl : i = 4 := by omega
    have ml := Vh.congr ml (vt_four n (L.map Lm.m))
    refine l_nx ?_
    refine c_nx (c_false (ev_in rfl (by omega)) (c_exit (x_out ?_)))
    refine c_rs ?_
    refine m_mv rfl (wanted_rd rfl) (run_loadP _ _ rfl many4 (ev_out rfl b5) ml (by decide)) ?_
    refine m_st (wanted_rd rfl) (fun K hK => ?_)
    refine wp_storeP _ _ _ _ rfl many4 (ev_out rfl b4) (ev_in rfl (by omega)) mr (by decide) (fun j hj => rfl) rfl ?_
    intro w11 mm11 k11 z11
    have mr11 := Vh.congr mm11 (stP_all4 _ _)
    have mn11 := mn.kept k11 (by omega)
    have mh11 := mh.kept k11 (by omega)
    have ml11 := ml.kept k11 (by omega)
    refine hK _ ?_
    clear hK K
    refine l_nx ?_
    refine c_ret (ret_of ((defL _ _).trans hd) (res_c rfl (ev_out rfl b4) many4 mr11 (Nat.le_refl _)) ⟨rfl, below_of_kept kB k11 (by omega) (by omega)⟩)

end Go.Proofs.YtngmeaaglogieabGreat

namespace Go.Proofs.YtngmeaaglogieabGreat
open Go.RowKit

end Go.Proofs.YtngmeaaglogieabGreat

namespace Go.Proofs.YtngmeaaglogieabGreat
open Go.RowKit

/-- Two boxes and a result. -/
theorem vt_three (w : World) (v : Nat → Int) (b : Nat → Bool) : ∃ w1, w1 = (((w.alloc (.cells #[.int .i64 (v 0), .int .i64 (v 1), .int .i64 (v 2), .int .i64 (v 3)] 28)).alloc (.cells #[.bool (b 0), .bool (b 1), .bool (b 2), .bool (b 3)] 27)).alloc (.cells #[.int .i64 0, .bool false, .slice none 0 0] 35)) ∧
    F4 w1 w.heap.size v ∧ B4 w1 (w.heap.size + 1) b ∧ VdAt w1 (w.heap.size + 1 + 1) 0 false (.slice none 0 0) ∧ Below w.heap.size w w1 ∧ w1.heap.size = w.heap.size + 1 + 1 + 1 := by
  obtain ⟨u, eu, mu, ku, su⟩ := f4_alloc w v
  obtain ⟨x, ex, mx, kx, sx⟩ := b4_alloc u b
  obtain ⟨y, ey, my, ky, sy⟩ := vd_alloc x 0 false (.slice none 0 0)
  subst eu
  subst ex
  rw [su] at mx
  rw [sx, su] at my
  refine ⟨y, ey, (mu.below kx).below ky, mx.below ky, my, ?_, by omega⟩
  exact (ku.trans (kx.mono (by omega))).trans (ky.mono (by omega))
/-- What lies in memory while votes are counted. -/
def VoI (w : World) (v : Nat → Int) (b : Nat → Bool) (X : Int) (S : Bool) (r : Value) (W : World) : Prop :=
  VdAt W (w.heap.size + 1 + 1 + 1) X S r ∧ F4 W w.heap.size v ∧ B4 W (w.heap.size + 1) b ∧ VdAt W (w.heap.size + 1 + 1) 0 false (.slice none 0 0) ∧ Below w.heap.size w W ∧ w.heap.size + 1 + 1 + 1 + 1 ≤ W.heap.size
section
variable {w W W' : World} {v : Nat → Int} {b : Nat → Bool} {X : Int} {S : Bool} {r : Value}
theorem VoI.drew (h : VoI w v b X S r W) : VoI w v b X S r W.drew := ⟨h.1, h.2.1, h.2.2.1, h.2.2.2.1, below_drew h.2.2.2.2.1, h.2.2.2.2.2⟩
theorem VoI.under (h : VoI w v b X S r W) (k : Below (w.heap.size + 1 + 1 + 1 + 1) W W') : VoI w v b X S r W' :=
  ⟨h.1.under k (by omega), h.2.1.under k (by omega), h.2.2.1.under k (by omega), h.2.2.2.1.under k (by omega), h.2.2.2.2.1.trans (k.mono (by omega)), Nat.le_trans h.2.2.2.2.2 k.size⟩
theorem VoI.put {X' : Int} {S' : Bool} {r' : Value} (h : VoI w v b X S r W) (m : VdAt W' (w.heap.size + 1 + 1 + 1) X' S' r') (k : Kept (w.heap.size + 1 + 1 + 1) W W') : VoI w v b X' S' r' W' :=
  ⟨m, h.2.1.kept k (by omega), h.2.2.1.kept k (by omega), h.2.2.2.1.kept k (by omega), below_of_kept h.2.2.2.2.1 k (by omega) h.2.2.2.2.1.size, Nat.le_trans h.2.2.2.2.2 k.size⟩
end
theorem decide_eq_beq (k : Nat) (v : Nat → Int) {b : Nat → Bool} (X : Int) (h : 0 < ti b 4) : Value.bool (decide (0 < ti b 4 ∧ v k = X)) = Value.bool (v k == X) := by
  congr 1
  by_cases e : v k = X
  · simp [e, h]
  · simp [e]

end Go.Proofs.YtngmeaaglogieabGreat
