import Derived.Test.YtdhblehhgpdpdaaGreatNear135
import Derived.Test.YtdhblehhgpdpdaaGreatNear136
namespace Go.Proofs.YtdhblehhgpdpdaaGreat
open Go.RowKit
theorem senN_vA (n : Nd) (fr : Int) (rd : Nat → Int) : (senN n fr rd).vA = n.vA := by
 unfold senN
 split <;> rfl
theorem bA_vA {n m : Nd} (h : n.vA = m.vA) : bA n = bA m := by
 unfold bA
 rw [h]
theorem agNew_as {B : Nat} {w : World} {n m : Nd} {ao : Option Addr} {c : Nat} (h : AgNew B w n ao c) (e : m.vA = n.vA) : AgNew B w m ao c := by
 unfold AgNew at h ⊢
 rw [e, bA_vA e]
 exact h
def rd4F (rd : Nat → Nat → Int) (j : Nat) : Value := iV (rd (j / 3) (j % 3))
theorem rd4F_at (rd : Nat → Nat → Int) {i j : Nat} (hj : j < 3) : rd4F rd (0 + i * 3 + j) = iV (rd i j) := by
 unfold rd4F
 rw [show (0 + i * 3 + j) / 3 = i by omega, show (0 + i * 3 + j) % 3 = j by omega]
def cpI (fb rb : Nat) (fr : Int) (rd : Nat → Nat → Int) : It := (vhI 3 fb 1 1 (fun _ => iV fr)).and (vhI 32 rb 12 12 (rd4F rd))
set_option maxHeartbeats 1000000 in
theorem sense_pvc (w0 : World) (bad : Int) (fb rb : Nat) (fr : Int) (rd : Nat → Nat → Int) (hfr : R64 fr) (hrd : ∀ s a, R64 (rd s a)) (Dn : Nat → Nd) (Bn : Nat → List Ms) : PvC w0 bad 41 #[.pointer (some ⟨fb, 0, none⟩), .pointer (some ⟨rb, 0, none⟩)] (fun i n _ => senN n fr (rd i)) (fun i n _ => senM n fr (rd i)) (fun _ y => y = cpI fb rb fr rd) Dn Bn := by
 intro i nd ao c mo mc L w y l hi _ _ _ hid hok hag _ _ _ _ hy H
 subst hy
 refine enterF Tryz.func41 rfl 17 rfl (of_decide_eq_true rfl) (fun A hs hd hb => ?_)
 have b0 : A.eval (.tmp 0) = agV (ndF nd (.slice ao nd.vA.length c)) 0 74 := hb 0 _ rfl
 have b2 : A.eval (.tmp 2) = .pointer (some ⟨fb, 0, none⟩) := hb 2 _ rfl
 have b3 : A.eval (.tmp 3) = .pointer (some ⟨rb, 0, none⟩) := hb 3 _ rfl
 clear hb
 refine c_rs (m_start ?_)
 refine m_do rfl (wanted_rd rfl) (fun K hK => ?_)
 refine wp_boxG _ _ _ rfl Qv (of_decide_eq_true rfl) ?_
 intro w1 m1 k1 z1
 replace H := H.add k1 (vhI _ _ _ _ _) m1 (fun j e => Nat.le_of_eq e.symm)
 refine hK _ _ ?_
 clear hK K
 refine m_do rfl (wanted_rd rfl) (fun K hK => ?_)
 refine wp_allocG _ _ rfl ZerK.out (of_decide_eq_true rfl) ?_
 intro w2 m2 k2 z2
 replace H := H.add k2 (vhI _ _ _ _ _) m2 (fun j e => Nat.le_of_eq e.symm)
 refine hK _ _ ?_
 clear hK K
 refine m_do rfl (wanted_rd rfl) (fun K hK => ?_)
 refine wp_allocG _ _ rfl ZerK.out (of_decide_eq_true rfl) ?_
 intro w3 m3 k3 z3
 replace H := H.add k3 (vhI _ _ _ _ _) m3 (fun j e => Nat.le_of_eq e.symm)
 refine hK _ _ ?_
 clear hK K
 refine l_nx ?_
 refine c_nx ?_
 have kA : Below w.heap.size w w3 := (k1.trans (k2.mono (by omega))).trans (k3.mono (by omega))
 replace H := H.drew
 have hcp : (cpI fb rb fr rd).p w3.drew := H.o3
 have hS : Its [vhI 37 w.heap.size 74 74 (ndF nd (.slice ao nd.vA.length c)), vhI 3 fb 1 1 (fun _ => iV fr), vhI 32 rb 12 12 (rd4F rd)] w3.drew := Its.cons H.o2 (Its.cons hcp.1 (Its.cons hcp.2 (Its.nil _)))
 refine c_rj (S := Its [vhI 37 w.heap.size 74 74 (ndF nd (.slice ao nd.vA.length c)), vhI 3 fb 1 1 (fun _ => iV fr), vhI 32 rb 12 12 (rd4F rd)]) (.rd 0 (.rd 1 (.mv 2 (.rd 3 (.mv 4 (.rd 5 (.go 6 (.mv 7 (.mv 8 (.go 9 (.go 10 .fin))))))))))) [9, 10] (by kernel_rfl) (by kernel_rfl) ?_
 iterate 4 first | refine qj ?_ | refine qr hS ?_
 refine j_mv rfl rfl (fun _ _ _ h => h) (wanted_rd rfl) (fun w => run_ixG _ _ _ _ rfl ArrK.out SizK.out Qv Qv hid hi w) ?_
 refine Yr rfl hS (fun _ H => Eq.trans (run_loadP _ _ rfl ManyK.out Qv H.v2 (by omega)) (by rw [agV_cong (fun j hj => rd4F_at rd hj)])) ?_
 refine j_do rfl rfl (wanted_rd rfl) (fun K hK => ?_)
 refine wp_call3n _ 42 _ _ _ _ rfl Qv Qv Qv (EntK.out _ _) (nodeSense_ok nd ao c fr (rd i) _ hok (hag.below (below_drew kA)) hfr (hrd i)) ?_
 rintro e w4 ⟨a', c', a2, c2, rfl, g1, g2, k4⟩
 replace H := rows_new (n := senN nd fr (rd i)) (a1 := (a', c')) (a2 := (a2, c2)) H k4 (agNew_as g1 (senN_vA _ _ _)) g2
 refine ⟨.tuple #[ndV (senN nd fr (rd i)) (slV (a', c') nd.vA.length), lsV (senM nd fr (rd i)) (slV (a2, c2) (senM nd fr (rd i)).L.length)], rfl, hK _ _ (fun _ _ => Its.cons H.o4 (Its.cons (show Vh _ _ _ _ _ _ from H.o5.1) (Its.cons (show Vh _ _ _ _ _ _ from H.o5.2) (Its.nil _)))) ?_⟩
 clear hK K
 repeat refine qj ?_
 refine j_st rfl (wanted_rd rfl) (fun K hK => ?_)
 refine wp_storeP _ _ _ _ rfl ManyK.out Qv Qv H.v3 (by omega) (ndF_one _ _ _ _) rfl ?_
 intro w6 m6 k6 z6
 replace H := H.s3 k6 (m6.congr stP_whole)
 refine hK _ (fun h => absurd h (by decide)) ?_
 clear hK K
 refine j_st rfl (wanted_rd rfl) (fun K hK => ?_)
 refine wp_storeP _ _ _ _ rfl ManyK.out Qv Qv H.v2 (by omega) (msF_one _ _ _ _ _ _) rfl ?_
 intro w7 m7 k7 z7
 replace H := H.s2 k7 (m7.congr stP_whole)
 refine hK _ (fun h => absurd h (by decide)) ?_
 clear hK K
 refine j_nx ?_
 refine c_ret (ret_of ((defL _ _).trans hd) (res_cc rfl Qv Qv ManyK.out ManyK.out H.v3 (Nat.le_refl _) H.v2 (Nat.le_refl _)) ⟨(a', c'), (a2, c2), _, rfl, ?_, H.f2.tl.f2.tl.f2.tl⟩)
 rw [senN_vA]
 rfl
theorem gdL_succ (bad : Int) (i : Nat) : gdL bad (i + 1) = gdL bad i ++ (if (i : Int) = bad then [] else [i]) := by
 unfold gdL
 rw [List.range_succ, List.filter_append]
 congr 1
 by_cases h : (i : Int) = bad
 ·rw [if_pos h]; simp [h]
 ·rw [if_neg h]; simp [h]
def rvI (B rv : Nat) (v : Value) (L : List Nd) : It := (vhI 44 rv 1 1 (fun _ => v)).and (ownI B 96 14 v L.length (rwS rpF 14 L))
def clL (bad : Int) (Dn : Nat → Nd) (Bn : Nat → List Ms) (k : Nat) : List Nd := (gdL bad k).map fun i => cloN (Dn i) (Bn i)
theorem clL_len (bad : Int) (Dn : Nat → Nd) (Bn : Nat → List Ms) (k : Nat) : (clL bad Dn Bn k).length ≤ k := by
 unfold clL gdL
 rw [List.length_map]
 exact Nat.le_trans (List.length_filter_le _ _) (by rw [List.length_range]; exact Nat.le_refl _)
theorem clL_good {bad : Int} {Dn : Nat → Nd} {Bn : Nat → List Ms} {i : Nat} (h : (i : Int) ≠ bad) : clL bad Dn Bn (i + 1) = clL bad Dn Bn i ++ [cloN (Dn i) (Bn i)] := by
 unfold clL
 rw [gdL_succ, if_neg h, List.map_append]
 rfl
theorem clL_bad {bad : Int} {Dn : Nat → Nd} {Bn : Nat → List Ms} {i : Nat} (h : (i : Int) = bad) : clL bad Dn Bn (i + 1) = clL bad Dn Bn i := by
 unfold clL
 rw [gdL_succ, if_pos h, List.append_nil]
set_option maxHeartbeats 1000000 in
theorem close_pvc (w0 : World) (bad : Int) (rv : Nat) (Dn : Nat → Nd) (Bn : Nat → List Ms) : PvC w0 bad 48 #[.pointer (some ⟨rv, 0, none⟩)] (fun _ n l => cloN n l) (fun _ _ _ => zeroM) (fun i y => ∃ v, y = rvI w0.heap.size rv v (clL bad Dn Bn i)) Dn Bn := by
 intro i nd ao c mo mc L w y l hi hbad hDn hBn hid hok hag hmr hl hlc hms ⟨v, hy⟩ H
 subst hy
 refine enterF Tryz.func48 rfl 21 rfl (of_decide_eq_true rfl) (fun A hs hd hb => ?_)
 have b0 : A.eval (.tmp 0) = agV (ndF nd (.slice ao nd.vA.length c)) 0 74 := hb 0 _ rfl
 have b1 : A.eval (.tmp 1) = .slice mo L.length mc := hb 1 _ rfl
 have b2 : A.eval (.tmp 2) = .pointer (some ⟨rv, 0, none⟩) := hb 2 _ rfl
 clear hb
 refine c_rs (m_start ?_)
 refine m_do rfl (wanted_rd rfl) (fun K hK => ?_)
 refine wp_boxG _ _ _ rfl Qv (of_decide_eq_true rfl) ?_
 intro w1 m1 k1 z1
 replace H := H.add k1 (vhI _ _ _ _ _) m1 (fun j e => Nat.le_of_eq e.symm)
 refine hK _ _ ?_
 clear hK K
 refine m_do rfl (wanted_rd rfl) (fun K hK => ?_)
 refine wp_allocG _ _ rfl ZerK.out (of_decide_eq_true rfl) ?_
 intro w2 m2 k2 z2
 replace H := H.add k2 (vhI _ _ _ _ _) m2 (fun j e => Nat.le_of_eq e.symm)
 refine hK _ _ ?_
 clear hK K
 refine m_do rfl (wanted_rd rfl) (fun K hK => ?_)
 refine wp_allocG _ _ rfl ZerK.out (of_decide_eq_true rfl) ?_
 intro w3 m3 k3 z3
 replace H := H.add k3 (vhI _ _ _ _ _) m3 (fun j e => Nat.le_of_eq e.symm)
 refine hK _ _ ?_
 clear hK K
 have kA : Below w.heap.size w w3 := (k1.trans (k2.mono (by omega))).trans (k3.mono (by omega))
 refine l_nx ?_
 refine c_rs ?_
 iterate 2 refine qa ?_
 refine q_c2 (nodeClose_ok nd ao c mo mc L w3 hok (hag.below kA) (hmr.below kA) (by omega) hlc (fun m hm => (hms m hm).L)) ?_
 rintro e w4 ⟨a', c', rfl, g1, k4⟩
 have hsz := H.size
 replace H := H.add k4 (agJ w0.heap.size (cloN nd (L.map Lm.m), (a', c'))) (rw_base g1 hsz) (fun j e => (g1.lt j e).1)
 have ecr : cloR nd (L.map Lm.m) = cloN nd (L.map Lm.m) := by
  unfold cloR
  rw [if_neg (by rw [hid, noN_at hi]; decide)]
 rw [ecr]
 refine ⟨_, rfl, ?_⟩
 iterate 3 refine qa ?_
 refine q_al H ?_
 intro w5 H z5
 refine q_al H ?_
 intro w6 H z6
 refine q_sp1 H stP_whole (ndF_one _ _ _ _) ?_
 intro w7 H z7
 refine q_sp0 H stP_whole (rpP_one _ _) ?_
 intro w8 H z8
 refine l_nx ?_
 refine c_rs ?_
 have hrv : (rvI w0.heap.size rv v (clL bad Dn Bn i)).p w8 := H.o6
 have hsz8 := H.size
 refine qg (run_lod1 _ _ rfl OneK.out Qv hrv.1 (by omega) rfl) ?_
 refine qa ?_
 refine m_do rfl (wanted_rd rfl) (fun K hK => ?_)
 refine wp_oneG SlcK.out ManyK.out ZerK.out (by decide) (by decide) rfl Qv ?_
 intro w9 m9 k9 z9
 replace H := H.call k9
 refine hK _ _ ?_
 clear hK K
 have hrv : (rvI w0.heap.size rv v (clL bad Dn Bn i)).p w9 := H.o6
 have hln := clL_len bad Dn Bn i
 refine m_do rfl (wanted_rd rfl) (fun K hK => ?_)
 refine wp_joinA rfl inferInstance H.size Qv Qv hrv.2 (rdc_own (rwS_own1 (B := w0.heap.size) (F := rpF) (x := cloN nd (L.map Lm.m)) m9 (by omega))) (rwS_one (fun x _ => rpP_one x 3)) (by unfold maxLen; omega) (by omega) ?_
 intro v' w10 o10 g10 f10
 have hvar : Vh 44 w9 rv 1 1 (fun _ => v) := hrv.1
 have napart : ∀ k, v.ownBlock = some k → k ≠ rv := fun k hk e => by
  obtain ⟨u1, hu1⟩ := own_type hrv.2 hk
  obtain ⟨u2, hu2, _⟩ := hvar
  rw [e, hu2] at hu1
  cases hu1
 have hvar10 : Vh 44 w10 rv 1 1 (fun _ => v) := hvar.same (g10.block rv hvar.lt (fun e => napart rv e.symm rfl))
 replace H := H.p6 g10.os g10.tape g10.output g10.size (fun j h5 h6 => g10.block j h5 (fun e => h6 (Or.inr e.symm))) ((vhI 44 rv 1 1 (fun _ => v)).and (ownI w0.heap.size 96 14 v' ((clL bad Dn Bn i).length + 1) (rwS rpF 14 (clL bad Dn Bn i) ++ rwS rpF 14 [cloN nd (L.map Lm.m)]))) ⟨hvar10, o10⟩ (fun j hj => by
  rcases hj with hj | hj
  ·exact Or.inl (Or.inl hj)
  ·rcases f10 j hj with h | h
   ·exact Or.inl (Or.inr h)
   ·exact Or.inr h)
 refine hK _ _ ?_
 clear hK K
 have napart2 : ∀ k, v'.ownBlock = some k → k ≠ rv := fun k hk e => by
  obtain ⟨u1, hu1⟩ := own_type o10 hk
  obtain ⟨u2, hu2, _⟩ := hvar10
  rw [e, hu2] at hu1
  cases hu1
 obtain ⟨va, vc, rfl, hvc⟩ := rw_slice o10
 refine m_st (wanted_rd rfl) (fun K hK => ?_)
 refine wp_sto1 _ _ _ _ rfl OneK.out Qv Qv hvar10 (by omega) rfl rfl rfl ?_
 intro w11 m11 k11 z11
 replace H := H.p6 k11.os k11.tape k11.output k11.size (fun j h5 h6 => k11.block j h5 (fun e => h6 (Or.inl e))) (rvI w0.heap.size rv (.slice va ((clL bad Dn Bn i).length + 1) vc) (clL bad Dn Bn (i + 1))) ⟨m11.congr (fun j hj => by
  obtain rfl : j = 0 := by omega
  exact stW_same _ _ _), by
   have e1 : clL bad Dn Bn (i + 1) = clL bad Dn Bn i ++ [cloN nd (L.map Lm.m)] := by rw [clL_good hbad, hDn, hBn]
   show World.ownsRow _ _ _ _ _ (clL bad Dn Bn (i + 1)).length (rwS rpF 14 (clL bad Dn Bn (i + 1)))
   rw [e1, List.length_append, rwS_app]
   exact rw_kept o10 k11 (fun e => napart2 rv e rfl)⟩ (fun j hj => Or.inl hj)
 refine hK _ ?_
 clear hK K
 refine l_nx ?_
 refine c_rs ?_
 refine qa ?_
 refine qg (run_bld0 rfl _) ?_
 refine q_sp4 H stP_whole (ndF_one _ _ _ _) ?_
 intro w12 H z12
 refine q_sp3 H stP_whole (msF_one _ _ _ _ _ _) ?_
 intro w13 H z13
 refine l_nx ?_
 refine c_ret (ret_of ((defL _ _).trans hd) (res_cc rfl Qv Qv ManyK.out ManyK.out H.v4 (Nat.le_refl _) H.v3 (Nat.le_refl _)) ⟨(a', c'), (none, 0), rvI w0.heap.size rv (.slice va ((clL bad Dn Bn i).length + 1) vc) (clL bad Dn Bn (i + 1)), ⟨_, rfl⟩, rfl, ?_⟩)
 exact (H.tl.tl.f1.tl.f1.tl.f1.tl.add (Below.refl _ _) (tlJ w0.heap.size (zeroM, (none, 0))) (World.ownsRow_nil _ _ _ _) (fun j e => nomatch e)).f1
theorem run_mkF1 {P : Program} {f : Operand → Value} {o : Oper} (fn : Fn) (x : Operand) (ho : o.op = .makeFunc fn #[] #[x]) {u : Value} (hx : f x = u) (w : World) : (execOp f o).run P w = .ok (.value (.func fn #[] #[u])) w := run_mkF fn _ ho (by simp [hx]) w
theorem run_mkF2 {P : Program} {f : Operand → Value} {o : Oper} (fn : Fn) (x y : Operand) (ho : o.op = .makeFunc fn #[] #[x, y]) {u v : Value} (hx : f x = u) (hy : f y = v) (w : World) : (execOp f o).run P w = .ok (.value (.func fn #[] #[u, v])) w := run_mkF fn _ ho (by simp [hx, hy]) w
theorem closed_any (b : Nat) (fr : Int) (D : Nat → Nd × Ad) (bad : Int) (lv : Value) (X : Nat → List Lm × Ad) (w0 w : World) (l : List It)
  (hid : ∀ i, i < 4 → (D i).1.id = (i : Nat)) (hok : ∀ i, i < 4 → NdOK (D i).1) (hX : ∀ i, i < 4 → (X i).1.length ≤ 1600 ∧ ∀ c, c ∈ (X i).1 → MsOK c.m)
  (H : Cx w0 w (agI w0.heap.size D :: vhI 88 b 303 303 (wkG fr D bad lv X) :: bxI w0.heap.size X :: l)) :
  Calls Tryz.prog 28 #[.pointer (some ⟨b, 0, none⟩)] w fun e w' => ∃ (D' : Nat → Nd × Ad) (v : Value), e = .returned v ∧ (∀ i, i < 4 → (D' i).1 = doN bad (fun _ n l => cloN n l) D X i) ∧
   Cx w0 w' (ownI w0.heap.size 96 14 v (clL bad (fun i => (D i).1) (fun i => (X i).1.map Lm.m) 4).length (rwS rpF 14 (clL bad (fun i => (D i).1) (fun i => (X i).1.map Lm.m) 4)) :: agI w0.heap.size D' :: vhI 88 b 303 303 (wkG fr D' bad lv X) :: bxI w0.heap.size X :: l) := by
 refine enterF Tryz.func28 rfl 8 rfl (of_decide_eq_true rfl) (fun A hs hd hb => ?_)
 have b0 : A.eval (.tmp 0) = .pointer (some ⟨b, 0, none⟩) := hb 0 _ rfl
 clear hb
 refine c_rs (m_start ?_)
 repeat first | refine qa ?_ | refine l_nx ?_ | refine c_rs ?_
 refine q_al1 H ?_
 intro w1 H z1
 repeat first | refine qa ?_ | refine l_nx ?_ | refine c_rs ?_
 refine qg (run_mkF1 _ _ rfl Qv _) ?_
 replace H := (H.add (Below.refl _ _) (ownI w0.heap.size 96 14 (.slice none 0 0) 0 []) (World.ownsRow_nil _ _ _ _) (fun j e => nomatch e)).f1.merge
 refine q_c2 (do_any b fr D bad lv X 48 #[.pointer (some ⟨w.heap.size, 0, none⟩)] (fun _ n l => cloN n l) (fun _ _ _ => zeroM) (fun i y => ∃ v, y = rvI w0.heap.size w.heap.size v (clL bad (fun i => (D i).1) (fun i => (X i).1.map Lm.m) i)) w0 w1 _ l (close_pvc w0 bad w.heap.size _ _) ⟨.slice none 0 0, rfl⟩ (fun i hi y hy => by obtain ⟨v, rfl⟩ := hy; exact ⟨v, by rw [clL_bad hi]⟩) hid hok hX H.f1) ?_
 rintro e w2 ⟨D', T, y', ⟨v, rfl⟩, rfl, hD, _, H⟩
 refine ⟨_, rfl, ?_⟩
 refine l_nx ?_
 refine c_rs ?_
 have hrv : (rvI w0.heap.size w.heap.size v (clL bad (fun i => (D i).1) (fun i => (X i).1.map Lm.m) 4)).p w2 := H.o2
 refine qg (run_lod1 _ _ rfl OneK.out Qv hrv.1 (by omega) rfl) ?_
 repeat first | refine qa ?_ | refine l_nx ?_
 exact c_ret (ret_of ((defL _ _).trans hd) (res_t rfl Qv) ⟨D', v, rfl, hD, H.tl.f1.wk (fun h => h.2) (fun k hk => Or.inr hk)⟩)
end Go.Proofs.YtdhblehhgpdpdaaGreat
namespace Go.Proofs.YtdhblehhgpdpdaaGreat
open Go.RowKit
def cellsN (g : Nat → Value) (N : Nat) : Array Value := ((List.range N).map g).toArray
theorem agV_cells (g : Nat → Value) (n : Nat) : (agV g 0 n).cells = cellsN g n := by
 unfold agV cellsN
 show ((List.range n).map fun j => g (0 + j)).toArray = _
 congr 1
 exact List.map_congr_left fun j _ => by rw [Nat.zero_add]
theorem cellsN_size (g : Nat → Value) (N : Nat) : (cellsN g N).size = N := by simp [cellsN]
theorem cellsN_at (g : Nat → Value) (N i : Nat) : (cellsN g N)[i]? = if i < N then some (g i) else none := by
 unfold cellsN
 by_cases h : i < N
 ·rw [if_pos h]; simp [h]
 ·rw [if_neg h]; simp [h]
theorem fillP {place : Nat → Option (Nat × Nat)} {i off n N : Nat} {v : Value} {g f : Nat → Value} (hp : place i = some (off, n)) (hv : v.cells = cellsN f n) (hN : off + n ≤ N) (rest : List (Nat × Value)) : Instr.fill place (cellsN g N) ((i, v) :: rest) = Instr.fill place (cellsN (stP g off n f) N) rest := by
 rw [Instr.fill]
 simp only [hp, hv, cellsN_size]
 rw [if_neg (by simp; omega)]
 congr 1
 obtain ⟨h1, h2⟩ := fold_set off ((List.range n).map f) 0 (cellsN g N) (by rw [cellsN_size, List.length_map, List.length_range]; omega)
 have e1 : Array.foldl (fun cs x => cs.setIfInBounds (off + x.2) x.1) (cellsN g N) (cellsN f n).zipIdx = (((List.range n).map f).zipIdx 0).foldl (fun a p => a.setIfInBounds (off + p.2) p.1) (cellsN g N) := by
  rw [← Array.foldl_toList]
  unfold cellsN
  simp
 rw [e1]
 refine Array.ext_getElem? (fun j => ?_)
 rw [h2 j, cellsN_at, cellsN_at, List.length_map, List.length_range]
 unfold stP
 by_cases c : off + 0 ≤ j ∧ j < off + 0 + n
 ·rw [if_pos c, if_pos (show j < N by omega), if_pos (by omega), List.getElem?_map, List.getElem?_range (by omega), Nat.add_zero]
  rfl
 ·rw [if_neg c]
  by_cases d : j < N
  ·rw [if_pos d, if_pos d, if_neg (by omega)]
  ·rw [if_neg d, if_neg d]
theorem run_bldG {P : Program} {f : Operand → Value} {o : Oper} {t : TypeId} {fields : Array Field} {N : Nat} {z g : Nat → Value} {places : Array (Nat × Nat)} {parts : Array (Nat × Operand)} (hu : P.underlying t = some (.struct fields)) (hz : ∀ w, (zeroValue t).run P w = .ok (agV z 0 N) w)
  (hpl : ∀ w, (fields.mapM fun (f : Field) => do pure (f.offset, ← sizeOf f.type) : Sem (Array (Nat × Nat))).run P w = .ok places w) (ho : o.op = .build t parts) (hf : Instr.fill (places[·]?) (cellsN z N) (parts.map fun p => (p.1, f p.2)).toList = some (cellsN g N)) (w : World) : (execOp f o).run P w = .ok (.value (agV g 0 N)) w := by
 unfold execOp
 simp only [ho, Instr.build, Sem.run_bind, hz, Result.andThen_ok, run_underlying hu, hpl, agV_cells]
 rw [show (Array.map (fun x => match x with | (i, x) => (i, f x)) parts).toList = (parts.map fun p => (p.1, f p.2)).toList from rfl, hf]
 show Result.ok (Next.value (Value.agg (cellsN g N))) w = _
 congr 3
 have := agV_cells g N
 unfold agV cellsN at *
 exact this.symm
end Go.Proofs.YtdhblehhgpdpdaaGreat
namespace Go.Proofs.YtdhblehhgpdpdaaGreat
open Go.RowKit
theorem ids_not {D : Nat → Nd × Ad} {i : Nat} (hi : i < 4) (h : (D i).1.id ≠ (i : Nat)) : ¬ ((D 0).1.id = 0 ∧ (D 1).1.id = 1 ∧ (D 2).1.id = 2 ∧ (D 3).1.id = 3) := by
 rintro ⟨h0, h1, h2, h3⟩
 rcases four hi with rfl | rfl | rfl | rfl
 ·exact h h0
 ·exact h h1
 ·exact h h2
 ·exact h h3
set_option maxHeartbeats 1000000 in
theorem clCheck_any (x : Ip) (fr : Int) (D : Nat → Nd × Ad) (lo : Option Addr) (lc : Nat) (w : World) :
  Calls Tryz.prog 23 #[agV (clG fr D) 0 297, agV (ipF x.rd x.bad (.slice lo x.ly.length lc)) 0 14] w fun e w' => e = .returned (.int .i64 (frE x ⟨fr, fun i => (D i).1⟩)) ∧ Below w.heap.size w w' := by
 refine enterF Tryz.func23 rfl 40 rfl (of_decide_eq_true rfl) (fun A hs hd hb => ?_)
 have b0 : A.eval (.tmp 0) = agV (clG fr D) 0 297 := hb 0 _ rfl
 have b1 : A.eval (.tmp 1) = agV (ipF x.rd x.bad (.slice lo x.ly.length lc)) 0 14 := hb 1 _ rfl
 clear hb
 have H := Cx.start w
 refine c_rs (m_start ?_)
 refine q_box H ?_
 intro w1 H z1
 refine q_box H ?_
 intro w2 H z2
 refine qa ?_
 refine l_nx ?_
 refine c_nx ?_
 refine c_rs ?_
 iterate 2 refine qa ?_
 by_cases c1 : x.bad < -1
 ·refine qg (run_lssI (b := true) _ _ rfl Qv Qv (decide_eq_true c1) _) ?_
  refine qa ?_
  iterate 3 refine q_skip ?_
  refine qg (run_pickT' _ _ _ rfl Qv Qv _) ?_
  refine qa ?_
  iterate 3 refine q_skip ?_
  refine qg (run_pickT' _ _ _ rfl Qv Qv _) ?_
  refine qa ?_
  iterate 3 refine q_skip ?_
  refine qg (run_pickT' _ _ _ rfl Qv Qv _) ?_
  refine l_nx ?_
  refine q_yes rfl ?_
  repeat first | refine qa ?_ | refine l_nx ?_ | refine c_rs ?_
  exact c_ret (r_nx (ret_of ((defL _ _).trans hd) (res_t rfl Qv) ⟨by unfold frE; rw [if_pos (Or.inl c1)], H.bel⟩))
 refine qg (run_lssI (b := false) _ _ rfl Qv Qv (decide_eq_false c1) _) ?_
 iterate 3 refine qa ?_
 by_cases c2 : 4 ≤ x.bad
 ·refine qg (run_geqI (b := true) _ _ rfl Qv Qv (decide_eq_true c2) _) ?_
  refine qg (run_pickF _ _ _ rfl Qv Qv _) ?_
  refine qa ?_
  iterate 3 refine q_skip ?_
  refine qg (run_pickT' _ _ _ rfl Qv Qv _) ?_
  refine qa ?_
  iterate 3 refine q_skip ?_
  refine qg (run_pickT' _ _ _ rfl Qv Qv _) ?_
  refine l_nx ?_
  refine q_yes rfl ?_
  repeat first | refine qa ?_ | refine l_nx ?_ | refine c_rs ?_
  exact c_ret (r_nx (ret_of ((defL _ _).trans hd) (res_t rfl Qv) ⟨by unfold frE; rw [if_pos (Or.inr (Or.inl c2))], H.bel⟩))
 refine qg (run_geqI (b := false) _ _ rfl Qv Qv (decide_eq_false c2) _) ?_
 refine qg (run_pickF _ _ _ rfl Qv Qv _) ?_
 iterate 3 refine qa ?_
 by_cases c3 : fr < 0
 ·refine qg (run_lssI (b := true) _ _ rfl Qv Qv (decide_eq_true c3) _) ?_
  refine qg (run_pickF _ _ _ rfl Qv Qv _) ?_
  refine qa ?_
  iterate 3 refine q_skip ?_
  refine qg (run_pickT' _ _ _ rfl Qv Qv _) ?_
  refine l_nx ?_
  refine q_yes rfl ?_
  repeat first | refine qa ?_ | refine l_nx ?_ | refine c_rs ?_
  exact c_ret (r_nx (ret_of ((defL _ _).trans hd) (res_t rfl Qv) ⟨by unfold frE; rw [if_pos (Or.inr (Or.inr (Or.inl c3)))], H.bel⟩))
 refine qg (run_lssI (b := false) _ _ rfl Qv Qv (decide_eq_false c3) _) ?_
 refine qg (run_pickF _ _ _ rfl Qv Qv _) ?_
 iterate 3 refine qa ?_
 by_cases c4 : 1073741823 < fr
 ·refine qg (run_gtrI (b := true) _ _ rfl Qv Qv (decide_eq_true c4) _) ?_
  refine qg (run_pickF _ _ _ rfl Qv Qv _) ?_
  refine l_nx ?_
  refine q_yes rfl ?_
  repeat first | refine qa ?_ | refine l_nx ?_ | refine c_rs ?_
  exact c_ret (r_nx (ret_of ((defL _ _).trans hd) (res_t rfl Qv) ⟨by unfold frE; rw [if_pos (Or.inr (Or.inr (Or.inr c4)))], H.bel⟩))
 refine qg (run_gtrI (b := false) _ _ rfl Qv Qv (decide_eq_false c4) _) ?_
 refine qg (run_pickF _ _ _ rfl Qv Qv _) ?_
 refine l_nx ?_
 refine q_no rfl (c_fin ?_)
 have eR : ¬ (x.bad < -1 ∨ 4 ≤ x.bad ∨ fr < 0 ∨ 1073741823 < fr) := by omega
 refine c_nx ?_
 refine c_rs ?_
 repeat first | refine qa ?_ | refine l_nx ?_
 refine q_if (fun h => ?_) (fun h => ?_)
 ·have c5 : 400 < x.ly.length := by have := of_decide_eq_true h; omega
  repeat first | refine qa ?_ | refine l_nx ?_ | refine c_rs ?_
  exact c_ret (r_nx (ret_of ((defL _ _).trans hd) (res_t rfl Qv) ⟨by unfold frE; rw [if_neg eR, if_pos c5], H.bel⟩))
 have c5 : ¬ 400 < x.ly.length := by have := of_decide_eq_false h; omega
 refine c_fin ?_
 refine c_nx ?_
 refine c_rs ?_
 refine qa ?_
 refine qg (Eq.trans (run_loadP _ _ rfl ManyK.out Qv H.v1 (by omega)) (by rw [agV_cong (fun j hj => clG_nds fr D hj)])) ?_
 repeat first | refine qa ?_ | refine l_nx ?_
 refine c_block ?_
 refine c_loop (fun r A W => ∃ i : Nat, i ≤ 4 ∧ 4 - i ≤ r ∧ A.tmps.size = 40 ∧ A.defers = [] ∧ A.eval (.tmp 30) = agV (ndsG D) 0 296 ∧ A.eval (.tmp 31) = .int .i64 (i : Int) ∧ (∀ j, j < i → (D j).1.id = (j : Nat)) ∧ Cx w W []) 4
  ⟨0, Nat.zero_le _, by omega, (szL _ _).trans hs, (defL _ _).trans hd, Qv, Qv, fun j h => absurd h (Nat.not_lt_zero j), H.tl.tl⟩ (fun r B W hI => ?_)
 clear b0 b1 hs hd H
 obtain ⟨i, hi, hr, hs, hd, b30, b31, hD, H⟩ := hI
 refine c_rs (m_start ?_)
 repeat first | refine qa ?_ | refine l_nx ?_ | refine c_rs ?_ | refine c_nx ?_
 refine q_if (fun h => ?_) (fun h => ?_)
 ·have hin : i < 4 := by have := of_decide_eq_true h; omega
  refine c_fin ?_
  refine c_nx (c_block ?_)
  refine c_rs ?_
  refine qa ?_
  refine qg (Eq.trans (run_ixVM _ _ _ _ rfl ArrK.out ManyK.out Qv rfl Qv rfl hin _) (by rw [agV_cong (fun j hj => ndsG_at D hj)])) ?_
  refine q_al H ?_
  intro w3 H z3
  refine qa ?_
  refine q_sp0 H stP_whole (ndF_one _ _ _ _) ?_
  intro w4 H z4
  repeat first | refine qa ?_ | refine l_nx ?_ | refine c_rs ?_
  refine q_if (fun h1 => ?_) (fun h1 => ?_)
  ·have e1 : (D i).1.id ≠ (i : Nat) := of_decide_eq_true h1
   repeat first | refine qa ?_ | refine l_nx ?_ | refine c_rs ?_
   exact c_ret (r_bl (r_nx (r_th (r_bl (r_nx (ret_of ((defL _ _).trans hd) (res_t rfl Qv) ⟨by unfold frE; rw [if_neg eR, if_neg c5, if_neg (ids_not hin e1)], H.bel⟩))))))
  ·have e1 : (D i).1.id = (i : Nat) := by have := of_decide_eq_false h1; simpa using this
   refine c_finB ?_
   refine c_region ?_
   repeat refine qa ?_
   exact l_round ⟨4 - (i + 1), by omega, i + 1, by omega, by omega, (szL _ _).trans hs, (defL _ _).trans hd, Qv, Eq.trans Qv (by rw [Int.natCast_add]; rfl), fun j hj => (by
    by_cases e : j = i
    ·rw [e]; exact e1
    ·exact hD j (by omega)), H.tl⟩
 ·obtain rfl : i = 4 := by have := of_decide_eq_false h; omega
  refine c_exit (x_out ?_)
  refine c_rs ?_
  repeat first | refine qa ?_ | refine l_nx ?_
  exact c_ret (ret_of ((defL _ _).trans hd) (res_t rfl Qv) ⟨by unfold frE; rw [if_neg eR, if_neg c5, if_pos ⟨hD 0 (by omega), hD 1 (by omega), hD 2 (by omega), hD 3 (by omega)⟩], H.bel⟩)
theorem run_bldW {f : Operand → Value} {o : Oper} {p q r : Operand} (ho : o.op = .build 88 #[(0, p), (1, q), (2, r)]) {fr : Int} {D : Nat → Nd × Ad} {bad : Int} {lo : Option Addr} {n lc : Nat} (hp : f p = agV (clG fr D) 0 297) (hq : f q = .int .i64 bad) (hr : f r = .slice lo n lc) (w : World) :
  (execOp f o).run Tryz.prog w = .ok (.value (agV (wkG fr D bad (.slice lo n lc) (fun _ => ([], (none, 0)))) 0 303)) w := by
 refine run_bldG (z := wkG 0 (fun _ => (zeroN, (none, 0))) 0 (.slice none 0 0) (fun _ => ([], (none, 0)))) (places := #[(0, 297), (297, 1), (298, 1), (299, 4)]) Tryz.underlying88 (fun w => by kernel_rfl) (fun w => by kernel_rfl) ho ?_ w
 rw [show (Array.map (fun p : Nat × Operand => (p.1, f p.2)) #[(0, p), (1, q), (2, r)]).toList = [(0, f p), (1, f q), (2, f r)] by simp]
 rw [hp, hq, hr, fillP (off := 0) (n := 297) rfl (agV_cells _ _) (by decide), fillP (off := 297) (n := 1) (f := fun _ => .int .i64 bad) rfl rfl (by decide), fillP (off := 298) (n := 1) (f := fun _ => .slice lo n lc) rfl rfl (by decide)]
 refine congrArg some ?_
 unfold cellsN
 refine congrArg List.toArray (List.map_congr_left fun j hj => ?_)
 have hj := List.mem_range.1 hj
 by_cases c1 : j < 297
 ·rw [stP_out _ _ (by omega), stP_out _ _ (by omega)]
  have := stP_in (wkG 0 (fun _ => (zeroN, (none, 0))) 0 (.slice none 0 0) (fun _ => ([], (none, 0)))) (o := 0) (clG fr D) c1
  rw [Nat.zero_add] at this
  rw [this]
  exact (wkF_cl c1).symm
 ·by_cases c2 : j = 297
  ·subst c2
   rw [stP_out _ _ (by omega)]
   rfl
  ·by_cases c3 : j = 298
   ·subst c3
    rfl
   ·rw [stP_out _ _ (by omega), stP_out _ _ (by omega), stP_out _ _ (by omega)]
    unfold wkG wkF
    rw [if_neg c1, if_neg c1, if_neg c2, if_neg c2, if_neg c3, if_neg c3]
theorem wkG_list (fr : Int) (D : Nat → Nd × Ad) (bad : Int) (lv : Value) (X : Nat → List Lm × Ad) {i : Nat} (hi : i < 4) (a : Ad) : ∀ j, j < 303 → stW (wkG fr D bad lv X) (1 + i * 74 + 73) (slV a (D i).1.vA.length) j = wkG fr (upM D i ((D i).1, a)) bad lv X j := by
 intro j hj
 rw [← wkG_nd fr D bad lv X hi ((D i).1, a) j hj]
 unfold stP
 by_cases c : 1 + i * 74 ≤ j ∧ j < 1 + i * 74 + 74
 ·rw [if_pos c]
  have e := ndF_list (D i).1 (slV (D i).2 (D i).1.vA.length) (slV a (D i).1.vA.length) (j - (1 + i * 74)) (by omega)
  rw [← e]
  unfold stW
  have hb : wkG fr D bad lv X j = ndF (D i).1 (slV (D i).2 (D i).1.vA.length) (j - (1 + i * 74)) := by
   unfold wkG
   rw [wkF_cl (by omega)]
   have := clF_nd fr (fun i => (D i).1) (fun i => slV (D i).2 (D i).1.vA.length) (i := i) (j := j - (1 + i * 74)) (by omega)
   rw [show 1 + i * 74 + (j - (1 + i * 74)) = j by omega] at this
   exact this
  by_cases d : j = 1 + i * 74 + 73
  ·rw [if_pos d, if_pos (by omega)]
  ·rw [if_neg d, if_neg (by omega), hb]
 ·rw [if_neg c, stW_other _ _ (by omega)]
theorem sr_rdc {w : World} {ao : Option Addr} {n c : Nat} {g : Nat → Value} (h : Sr w ao n c g) : Rdc w 1 (.slice ao n c) n (rowV g n) := by
 rcases h with ⟨rfl, rfl, rfl⟩ | ⟨y, rfl, hc⟩
 ·exact Or.inl ⟨rfl, rfl, rfl⟩
 ·refine Or.inr ⟨y, c, rfl, rowV_len g n, fun j u hj => ?_⟩
  rcases Nat.lt_or_ge j n with h | h
  ·rw [rowV_at g h] at hj; cases hj; exact hc j h
  ·rw [rowV_none g h] at hj; cases hj
set_option maxHeartbeats 1000000 in
theorem atWork_any (x : Ip) (fr : Int) (D : Nat → Nd × Ad) (lo : Option Addr) (lc : Nat) (w0 w : World) (l : List It) (hag : ∀ i, i < 4 → AgRd w0 (D i).1 (D i).2.1 (D i).2.2) (hok : ∀ i, i < 4 → NdOK (D i).1) (H : Cx w0 w l) :
  Calls Tryz.prog 24 #[agV (clG fr D) 0 297, agV (ipF x.rd x.bad (.slice lo x.ly.length lc)) 0 14] w fun e w' => ∃ (b : Nat) (D' : Nat → Nd × Ad), e = .returned (.pointer (some ⟨b, 0, none⟩)) ∧ (∀ i, i < 4 → (D' i).1 = (D i).1) ∧ Cx w0 w' (agI w0.heap.size D' :: vhI 88 b 303 303 (wkG fr D' x.bad (.slice lo x.ly.length lc) (fun _ => ([], (none, 0)))) :: l) := by
 refine enterF Tryz.func24 rfl 35 rfl (of_decide_eq_true rfl) (fun A hs hd hb => ?_)
 have b0 : A.eval (.tmp 0) = agV (clG fr D) 0 297 := hb 0 _ rfl
 have b1 : A.eval (.tmp 1) = agV (ipF x.rd x.bad (.slice lo x.ly.length lc)) 0 14 := hb 1 _ rfl
 clear hb
 refine c_rs (m_start ?_)
 refine q_box H ?_
 intro w1 H z1
 refine q_box H ?_
 intro w2 H z2
 repeat first | refine qa ?_ | refine l_nx ?_ | refine c_rs ?_
 refine qg (run_bldW (fr := fr) (D := D) rfl Qv Qv Qv _) ?_
 refine q_box H ?_
 intro w3 H z3
 refine qa ?_
 refine l_nx ?_
 refine c_nx ?_
 refine c_rs ?_
 refine qa ?_
 refine qg (Eq.trans (run_loadP _ _ rfl ManyK.out Qv H.v2 (by omega)) (by rw [agV_cong (fun j hj => clG_nds fr D hj)])) ?_
 repeat first | refine qa ?_ | refine l_nx ?_
 refine c_block ?_
 refine c_loop (fun r A W => ∃ (i : Nat) (D' E : Nat → Nd × Ad), i ≤ 4 ∧ 4 - i ≤ r ∧ A.tmps.size = 35 ∧ A.defers = [] ∧ A.eval (.tmp 5) = .pointer (some ⟨w2.heap.size, 0, none⟩) ∧ A.eval (.tmp 16) = agV (ndsG D) 0 296 ∧ A.eval (.tmp 17) = .int .i64 (i : Int) ∧ (∀ j, j < 4 → (D' j).1 = (D j).1) ∧ (∀ j, j < i → E j = D' j) ∧
   Cx w0 W (agI w0.heap.size E :: vhI 88 w2.heap.size 303 303 (wkG fr D' x.bad (.slice lo x.ly.length lc) (fun _ => ([], (none, 0)))) :: l)) 4
  ⟨0, D, fun _ => (zeroN, (none, 0)), Nat.zero_le _, by omega, (szL _ _).trans hs, (defL _ _).trans hd, Qv, Qv, Qv, fun _ _ => rfl, fun j h => absurd h (Nat.not_lt_zero j), H.f1.tl.f1.tl.add (Below.refl _ _) (agI w0.heap.size (fun _ => (zeroN, (none, 0)))) (fun _ _ => World.ownsRow_nil _ _ _ _) (fun j ⟨_, _, e⟩ => absurd e (fun e => nomatch e))⟩ (fun r B W hI => ?_)
 clear b0 b1 hs hd H
 obtain ⟨i, D', E, hi, hr, hs, hd, b5, b16, b17, hD, hE, H⟩ := hI
 refine c_rs (m_start ?_)
 repeat first | refine qa ?_ | refine l_nx ?_ | refine c_rs ?_ | refine c_nx ?_
 refine q_if (fun h => ?_) (fun h => ?_)
 ·have hin : i < 4 := by have := of_decide_eq_true h; omega
  refine c_fin ?_
  refine c_nx (c_block ?_)
  refine c_rs ?_
  refine qa ?_
  refine qg (Eq.trans (run_ixVM _ _ _ _ rfl ArrK.out ManyK.out Qv rfl Qv rfl hin _) (by rw [agV_cong (fun j hj => ndsG_at D hj)])) ?_
  refine q_al H ?_
  intro w3 H z3
  refine qa ?_
  refine q_sp0 H stP_whole (ndF_one _ _ _ _) ?_
  intro w4 H z4
  refine l_nx ?_
  replace H := H.drew
  have hS : Its [vhI 37 W.heap.size 74 74 (ndF (D i).1 (slV (D i).2 (D i).1.vA.length))] w4.drew := Its.cons H.o0 (Its.nil _)
  refine c_rj (S := Its [vhI 37 W.heap.size 74 74 (ndF (D i).1 (slV (D i).2 (D i).1.vA.length))]) (.mv 0 (.mv 1 (.mv 2 (.mv 3 (.rd 4 (.mv 6 (.mv 7 (.mv 8 (.go 5 (.mv 9 (.mv 10 (.mv 11 (.go 12 .fin))))))))))))) [12] (by kernel_rfl) (by kernel_rfl) ?_
  repeat first | refine qj ?_ | refine qr hS ?_
  refine j_do rfl rfl (wanted_rd rfl) (fun K hK => ?_)
  have hvA := (hok i hin).vA
  refine wp_joinA rfl inferInstance H.size Qv Qv (World.ownsRow_nil _ _ _ _) (sr_rdc ((hag i hin).below H.bel)) (rowV_one _ _ (fun _ _ => rfl)) (by unfold maxLen; omega) (by omega) ?_
  intro v' w5 o5 g5 f5
  rw [Nat.zero_add, List.nil_append] at o5
  obtain ⟨a5, c5, rfl, hc5⟩ := rw_slice o5
  have k5 : Below w4.drew.heap.size w4.drew w5 := ⟨g5.os, g5.tape, g5.output, g5.size, fun k hk => g5.block k hk (fun e => nomatch e)⟩
  replace H := H.add k5 (agJ w0.heap.size ((D i).1, (a5, c5))) o5 (fun j e => (f5 j e).resolve_left (fun e => nomatch e))
  refine hK _ _ (fun _ _ => Its.cons H.o1 (Its.nil _)) ?_
  clear hK K
  repeat refine qj ?_
  refine j_st rfl (wanted_rd rfl) (fun K hK => ?_)
  refine wp_sto1 _ _ _ _ rfl OneK.out Qv Qv H.v3 (by omega) rfl rfl rfl ?_
  intro w6 m6 k6 z6
  replace H := H.s3 k6 (m6.congr (fun j hj => Eq.trans (by rw [show 0 + 0 + 1 + i * 74 + 71 + 2 = 1 + i * 74 + 73 by omega, hD i hin]; rfl) (wkG_list fr D' x.bad (.slice lo x.ly.length lc) (fun _ => ([], (none, 0))) hin (a5, c5) j hj)))
  refine hK _ (fun h => absurd h (by decide)) ?_
  clear hK K
  refine j_finB ?_
  refine c_region ?_
  repeat refine qa ?_
  refine l_round ⟨4 - (i + 1), by omega, i + 1, upM D' i ((D' i).1, (a5, c5)), upM E i ((D i).1, (a5, c5)), by omega, by omega, (szL _ _).trans hs, (defL _ _).trans hd, Qv, Qv, Eq.trans Qv (by rw [Int.natCast_add]; rfl), fun j hj => ?_, fun j hj => ?_, four_set (g := agJ w0.heap.size) i H.f1.tl⟩
  ·by_cases e : j = i
   ·rw [e, upM_same]; exact hD i hin
   ·rw [upM_other _ _ e]; exact hD j hj
  ·by_cases e : j = i
   ·rw [e, upM_same, upM_same, hD i hin]
   ·rw [upM_other _ _ e, upM_other _ _ e]; exact hE j (by omega)
 ·obtain rfl : i = 4 := by have := of_decide_eq_false h; omega
  refine c_exit (x_out ?_)
  refine c_rs ?_
  repeat first | refine qa ?_ | refine l_nx ?_
  refine c_ret (ret_of ((defL _ _).trans hd) (res_t rfl Qv) ⟨w2.heap.size, D', rfl, hD, H.wk (fun h j hj => ?_) (fun k ⟨j, hj, hk⟩ => ⟨j, hj, ?_⟩)⟩)
  ·have this : (agJ w0.heap.size (E j)).p W := h j hj
   rw [hE j hj] at this
   exact this
  ·show (agJ w0.heap.size (E j)).foot k
   rw [hE j hj]
   exact hk
def phV (fb rb : Nat) (k : Nat) : Value := if k = 0 then .func (.func 41) #[] #[.pointer (some ⟨fb, 0, none⟩), .pointer (some ⟨rb, 0, none⟩)] else if k = 1 then .func (.func 43) #[] #[] else if k = 2 then .func (.func 44) #[] #[] else if k = 3 then .func (.func 45) #[] #[] else .func (.func 46) #[] #[]
theorem wp_row5F (w : World) {o : Oper} {a : Act} {K : Act → World → Prop} {Q : Exit → Act → World → Prop} {x : Operand} (ho : o.op = .buildSlice 74 5 #[(0, x), (1, .func 43), (2, .func 44), (3, .func 45), (4, .func 46)]) {fb rb : Nat} (hx : a.eval x = phV fb rb 0)
  (h : ∀ w', Vh 77 w' w.heap.size 5 5 (phV fb rb) → Below w.heap.size w w' → w'.heap.size = w.heap.size + 1 → K (a.put o.dst (.slice (some ⟨w.heap.size, 0, none⟩) 5 5)) w') : WpI Tryz.prog o a w K Q := by
 have hh := h (w.alloc (.cells #[phV fb rb 0, phV fb rb 1, phV fb rb 2, phV fb rb 3, phV fb rb 4] 77)) (Vh.of_row (phV fb rb) 5 (by decide) (by show (w.heap.push _)[w.heap.size]? = _; rw [Array.getElem?_push_size]; rfl)) (al_below _ _) (al_size _ _)
 have e : (execOp a.eval o).run Tryz.prog w = .ok (.value (.slice (some ⟨w.heap.size, 0, none⟩) 5 5)) (w.alloc (.cells #[phV fb rb 0, phV fb rb 1, phV fb rb 2, phV fb rb 3, phV fb rb 4] 77)) := by
  have e1 : a.eval (.func 43) = phV fb rb 1 := rfl
  have e2 : a.eval (.func 44) = phV fb rb 2 := rfl
  have e3 : a.eval (.func 45) = phV fb rb 3 := rfl
  have e4 : a.eval (.func 46) = phV fb rb 4 := rfl
  clear hh h
  generalize a.eval = f at hx e1 e2 e3 e4
  unfold phV at *
  unfold execOp
  rw [ho]
  simp only [List.map_toArray, List.map_cons, List.map_nil]
  rw [hx, e1, e2, e3, e4]
  go_simp
 refine ⟨?_⟩
 unfold Oper.wp
 rw [e]
 exact hh
theorem phases_any (fr : Int) (rd : Nat → Nat → Int) (w0 w : World) (l : List It) (H : Cx w0 w l) :
  Calls Tryz.prog 25 #[.int .i64 fr, agV (rd4F rd) 0 12] w fun e w' => ∃ fb rb pb, e = .returned (.slice (some ⟨pb, 0, none⟩) 5 5) ∧ Cx w0 w' (vhI 77 pb 5 5 (phV fb rb) :: cpI fb rb fr rd :: l) := by
 refine enterF Tryz.func25 rfl 9 rfl (of_decide_eq_true rfl) (fun A hs hd hb => ?_)
 have b0 : A.eval (.tmp 0) = .int .i64 fr := hb 0 _ rfl
 have b1 : A.eval (.tmp 1) = agV (rd4F rd) 0 12 := hb 1 _ rfl
 clear hb
 refine c_rs (m_start ?_)
 refine q_box1 H ?_
 intro w1 H z1
 refine q_box H ?_
 intro w2 H z2
 repeat first | refine qa ?_ | refine l_nx ?_ | refine c_rs ?_
 refine qg (run_mkF2 _ _ _ rfl Qv Qv _) ?_
 repeat first | refine qa ?_ | refine l_nx ?_ | refine c_rs ?_
 refine m_do rfl (wanted_rd rfl) (fun K hK => ?_)
 refine wp_row5F _ (fb := w.heap.size) (rb := w1.heap.size) rfl (Eq.trans Qv rfl) ?_
 intro w3 m3 k3 z3
 replace H := H.add k3 (vhI _ _ _ _ _) m3 (fun j e => Nat.le_of_eq e.symm)
 refine hK _ _ ?_
 clear hK K
 repeat first | refine qa ?_ | refine l_nx ?_
 exact c_ret (ret_of ((defL _ _).trans hd) (res_t rfl Qv) ⟨w.heap.size, w1.heap.size, _, rfl, H.f2.f2.f1.merge.b1⟩)
end Go.Proofs.YtdhblehhgpdpdaaGreat
namespace Go.Proofs.YtdhblehhgpdpdaaGreat
open Go.RowKit
theorem zero3 (w : World) : (zeroValue 31).run Tryz.prog w = .ok (agV (fun _ => iV 0) 0 3) w := by kernel_rfl
theorem stP_all3 (g : Nat → Value) (h : Nat → Value) : ∀ j, j < 3 → stP g 0 3 h j = h j := fun j hj => by
 have := stP_in g (o := 0) (n := 3) h hj
 rwa [Nat.zero_add] at this
theorem run_len3 {f : Operand → Value} {o : Oper} (x : Operand) (ho : o.op = .call { callee := .builtin .len, args := #[x], argTypes := #[132] }) {ao : Option Addr} {n c : Nat} (hx : f x = .slice ao n c) (w : World) : (execOp f o).run Tryz.prog w = .ok (.value (.int .i64 ((n : Nat) : Int))) w := by
 unfold execOp
 rw [ho]
 dsimp only
 go_simp
theorem run_ix3 {f : Operand → Value} {o : Oper} (x y : Operand) (ho : o.op = .indexAddr 132 x y) {b off n cap i : Nat} {z : Int} (hx : f x = .slice (some ⟨b, off, none⟩) n cap) (hy : f y = .int .i64 z) (hz : z = (i : Int)) (hi : i < n) (w : World) :
  (execOp f o).run Tryz.prog w = .ok (.value (.pointer (some ⟨b, off + i * 3, none⟩))) w := by
 subst hz
 have hi2 : (i : Int) < n := by omega
 unfold execOp
 rw [ho]
 dsimp only
 rw [hx, hy]
 go_simp
theorem flat_next {d : Nat → Nat → Int} {i : Nat} : rowV (iF (fun j => d (j / 3) (j % 3))) (3 * i) ++ rowV (fun k => iV (d i k)) 3 = rowV (iF (fun j => d (j / 3) (j % 3))) (3 * (i + 1)) := by
 rw [rowV_append]
 refine rowV_congr (fun j hj => ?_)
 by_cases c : j < 3 * i
 ·rw [if_pos c]
 ·rw [if_neg c]
  show iV (d i (j - 3 * i)) = iV (d (j / 3) (j % 3))
  rw [show j / 3 = i by omega, show j % 3 = j - 3 * i by omega]
theorem flat_any (b o N cap : Nat) (t : TypeId) (g : Nat → Value) (d : Nat → Nat → Int) (w : World) (hm : Vh t w b N cap g) (ho : o + 12 ≤ N) (hg : ∀ i k, i < 4 → k < 3 → g (o + i * 3 + k) = iV (d i k)) :
  Calls Tryz.prog 71 #[.slice (some ⟨b, o, none⟩) 4 4] w fun e w' => ∃ a2 c2, e = .returned (.slice a2 12 c2) ∧ w'.ownsRow w.heap.size 3 1 (.slice a2 12 c2) 12 (rowV (iF (fun j => d (j / 3) (j % 3))) 12) ∧ Below w.heap.size w w' := by
 refine enterF Tryz.func71 rfl 17 rfl (of_decide_eq_true rfl) (fun A hs hd hb => ?_)
 have b0 := hb 0 _ rfl
 clear hb
 refine c_rs (m_start ?_)
 refine Yp ?_
 refine l_nx ?_
 refine c_rs ?_
 refine Yp ?_
 refine l_nx ?_
 refine c_nx ?_
 refine c_rs ?_
 refine Yp ?_
 refine Yq (run_len3 _ rfl (Ye rfl) _) ?_
 refine Yp ?_
 refine l_nx ?_
 refine c_block ?_
 refine c_loop (fun r a W => ∃ (i : Nat) (v : Value), i ≤ 4 ∧ 4 - i ≤ r ∧ a.tmps.size = 17 ∧ a.defers = [] ∧ a.eval (.tmp 6) = .slice (some ⟨b, o, none⟩) 4 4 ∧ a.eval (.tmp 7) = .int .i64 ((4 : Nat) : Int) ∧ a.eval (.tmp 8) = .int .i64 (i : Int) ∧ a.eval (.tmp 3) = v ∧ W.ownsRow w.heap.size 3 1 v (3 * i) (rowV (iF (fun j => d (j / 3) (j % 3))) (3 * i)) ∧ Below w.heap.size w W) 4 ⟨0, _, by omega, by omega, (szL _ _).trans hs, (defL _ _).trans hd, (Ye rfl), (Ye rfl), (Ye rfl), (Ye rfl), World.ownsRow_nil _ _ _ _, Below.refl _ _⟩ (fun r B W hI => ?_)
 clear b0 hs hd
 obtain ⟨i, v, hi, hr2, hs, hd, b6, b7, b8, b3, ov, kB⟩ := hI
 have hWs := kB.size
 have hbl := hm.lt
 by_cases hin : i < 4
 ·refine c_rs (m_start ?_)
  refine Yq (run_lssI (b := true) _ _ rfl (ev_out rfl b8) (ev_out rfl b7) (decide_eq_true (by omega)) _) ?_
  refine l_nx ?_
  refine c_nx (c_true (Ye rfl) (c_fin ?_))
  refine c_nx (c_block ?_)
  refine c_rs ?_
  refine Yq (run_ix3 _ _ rfl (ev_out rfl b6) (ev_out rfl b8) rfl hin _) ?_
  refine Yq (run_loadPe (h := fun k => iV (d i k)) _ _ rfl many3 (Ye rfl) (hm.below kB) (by omega) (fun k hk => hg i k hin hk)) ?_
  refine m_do rfl (wanted_rd rfl) (fun K hK => ?_)
  refine wp_allocG _ _ rfl zero3 (of_decide_eq_true rfl) ?_
  intro w1 m1 k1 z1
  have ov1 := rw_below ov k1
  refine hK _ _ ?_
  clear hK K
  refine m_st (wanted_rd rfl) (fun K hK => ?_)
  refine wp_storeP _ _ _ _ rfl many3 (Ye rfl) (Ye rfl) m1 (by decide) (fun j hj => rfl) rfl ?_
  intro w2 mm2 k2 z2
  have mrow2 := Vh.congr mm2 (stP_all3 _ _)
  have ov2 := rw_kept ov1 k2 (fun e => by have e2 := (ov.lt _ e).2; omega)
  refine hK _ ?_
  clear hK K
  refine l_nx ?_
  refine c_region ?_
  refine Yp ?_
  refine Yq (run_cutI3 _ rfl (Ye rfl) _) ?_
  refine m_do rfl (wanted_rd rfl) (fun K hK => ?_)
  refine ⟨wp_joinI _ _ _ rfl w.heap.size (by omega) v _ _ (Ye rfl) ov2 _ 3 3 _ (Ye rfl) (Or.inr ⟨_, rfl, fun i hi => by rw [add_at, Nat.zero_add]; exact mrow2.cell hi⟩) (fun i _ => rfl) (by omega) ?_⟩
  intro v3 w3 ov3 k3
  have n3 := k3.size
  rw [flat_next] at ov3
  refine hK _ _ ?_
  clear hK K
  refine Yp ?_
  refine l_finB ?_
  refine c_region ?_
  refine Yq (run_addI _ _ rfl (ev_out rfl b8) (ev_const _ _) (by omega) (by omega) _) ?_
  refine Yp ?_
  exact l_round ⟨4 - (i + 1), by omega, i + 1, _, by omega, by omega, (szL _ _).trans hs, (defL _ _).trans hd, (ev_out rfl b6), (ev_out rfl b7), (Ye rfl).trans (by rw [Int.natCast_add]; rfl), (Ye rfl), ov3, (below_of_kept (kB.trans (k1.mono (by omega))) k2 (by omega) (by omega)).trans (k3.mono (by omega))⟩
 ·refine c_rs (m_start ?_)
  refine Yq (run_lssI (b := false) _ _ rfl (ev_out rfl b8) (ev_out rfl b7) (decide_eq_false (by omega)) _) ?_
  obtain rfl : i = 4 := by omega
  refine l_nx ?_
  refine c_nx (c_false (Ye rfl) (c_exit (x_out ?_)))
  refine c_rs ?_
  iterate 2 refine Yp ?_
  obtain ⟨a2, c2, rfl, hc2⟩ := rw_slice ov
  refine l_nx ?_
  exact c_ret (ret_of ((defL _ _).trans hd) (res_t rfl (Ye rfl)) ⟨a2, c2, rfl, ov, kB⟩)
end Go.Proofs.YtdhblehhgpdpdaaGreat
