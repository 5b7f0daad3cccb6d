/- Joined: ClPr8, NodPr2, ClBeg, ClTp1. -/
import Derived.Test.YthimcecbgpamdaaGreatNear160
import Derived.Test.YthimcecbgpamdaaGreatNear151
import Derived.Test.YthimcecbgpamdaaGreatNear156
import Derived.Test.YthimcecbgpamdaaGreatNodPr10
import Derived.Test.YthimcecbgpamdaaGreatNear157
import Derived.Test.YthimcecbgpamdaaGreatNear90
import Derived.Test.YthimcecbgpamdaaGreatNear132
namespace Go.Proofs.YthimcecbgpamdaaGreat
open Go.RowKit

theorem bxM_congr {x : Ip} {t u : Nat → Ms} {wo ph : Nat} : ∀ {k : Nat}, (∀ j, j < k → t j = u j) → bxM x t wo ph k = bxM x u wo ph k
  | 0, _ => rfl
  | k + 1, h => by
    show bxM x t wo ph k ++ _ = bxM x u wo ph k ++ _
    rw [bxM_congr (fun j hj => h j (by omega)), h k (by omega)]
/-- One phase of a frame. -/
theorem do_k (x : Ip) (fr : Int) (k : Nat) (hk : k < 5) (fb rb b : Nat) (D : Nat → Nd × Ad) (lv : Value) (X : Nat → List Lm × Ad) (w0 w : World) (l : List It) (hfr : R64 fr) (hrd : ∀ s a, R64 (x.rd s a))
    (hid : ∀ i, i < 4 → (D i).1.id = (i : Nat)) (hok : ∀ i, i < 4 → NdOK (D i).1) (hX : ∀ i, i < 4 → (X i).1.length ≤ 1600 ∧ ∀ c, c ∈ (X i).1 → MsOK c.m)
    (H : Cx w0 w (agI w0.heap.size D :: cpI fb rb fr x.rd :: vhI 74 b 303 303 (wkG fr D x.bad lv X) :: bxI w0.heap.size X :: l)) :
    Calls Tryz.prog 18 #[.pointer (some ⟨b, 0, none⟩), phV fb rb k] w fun e w' => ∃ (D' : Nat → Nd × Ad) (T : Nat → Ms × Ad), e = .returned (agV (m4G T) 0 16) ∧ (∀ i, i < 4 → (D' i).1 = wkN x fr ⟨fun i => (D i).1, fun i => (X i).1.map Lm.m⟩ k i) ∧ (∀ i, i < 4 → (T i).1 = wkM x fr ⟨fun i => (D i).1, fun i => (X i).1.map Lm.m⟩ k i) ∧
      Cx w0 w' (tlI w0.heap.size T :: agI w0.heap.size D' :: cpI fb rb fr x.rd :: vhI 74 b 303 303 (wkG fr D' x.bad lv X) :: bxI w0.heap.size X :: l) := by
  have pure : ∀ (fn : Nat) [EntK Tryz.prog fn] (N : Nd → List Ms → Nd) (M : Nd → List Ms → Ms), PhOK N M fn → Calls Tryz.prog 18 #[.pointer (some ⟨b, 0, none⟩), .func (.func fn) #[] #[]] w fun e w' => ∃ (D' : Nat → Nd × Ad) (T : Nat → Ms × Ad), e = .returned (agV (m4G T) 0 16) ∧ (∀ i, i < 4 → (D' i).1 = doN x.bad (fun _ => N) D X i) ∧ (∀ i, i < 4 → (T i).1 = doM x.bad (fun _ => M) D X i) ∧
      Cx w0 w' (tlI w0.heap.size T :: agI w0.heap.size D' :: cpI fb rb fr x.rd :: vhI 74 b 303 303 (wkG fr D' x.bad lv X) :: bxI w0.heap.size X :: l) := fun fn _ N M h => by
    refine (do_any b fr D x.bad lv X fn #[] (fun _ => N) (fun _ => M) (fun _ y => y = emI) w0 w emI (cpI fb rb fr x.rd :: l) (pvc_pure h) rfl (fun _ _ _ h => h) hid hok hX ((H.f1.b3.add (Below.refl _ _) emI trivial (fun _ e => e.elim)).f1)).mono ?_
    rintro e w' ⟨D', T, y', rfl, rfl, hD, hT, H⟩
    exact ⟨D', T, rfl, hD, hT, H.f2.tl.f4.b2⟩
  have : k = 0 ∨ k = 1 ∨ k = 2 ∨ k = 3 ∨ k = 4 := by omega
  rcases this with rfl | rfl | rfl | rfl | rfl
  · refine (do_any b fr D x.bad lv X 32 #[.pointer (some ⟨fb, 0, none⟩), .pointer (some ⟨rb, 0, none⟩)] (fun i n _ => senN n fr (x.rd i)) (fun i n _ => senM n fr (x.rd i)) (fun _ y => y = cpI fb rb fr x.rd) w0 w (cpI fb rb fr x.rd) l (sense_pvc w0 x.bad fb rb fr x.rd hfr hrd _ _) rfl (fun _ _ _ h => h) hid hok hX H).mono ?_
    rintro e w' ⟨D', T, y', rfl, rfl, hD, hT, H⟩
    exact ⟨D', T, rfl, hD, hT, H⟩
  · exact pure 34 relN relM nodeRelay_ok
  · exact pure 35 decN decM nodeDecide_ok
  · exact pure 36 pasN pasM nodePass_ok
  · exact pure 37 judN judM nodeJudge_ok
theorem wkK_bad {x : Ip} {c : Cl} {i : Nat} (h : (i : Int) = x.bad) : ∀ k, (wkK x c k).nd i = c.nd i
  | 0 => rfl
  | k + 1 => by
    show (if (i : Int) = x.bad then _ else _) = _
    rw [if_pos h]
    exact wkK_bad h k
theorem wkN_of {x : Ip} {fr : Int} {s s' : Wk} {k i : Nat} (h1 : s.nd i = s'.nd i) (h2 : s.bx i = s'.bx i) : wkN x fr s k i = wkN x fr s' k i ∧ wkM x fr s k i = wkM x fr s' k i := by
  unfold wkN wkM
  rw [h1, h2]
  exact ⟨rfl, rfl⟩
theorem clG_congr (fr : Int) (D : Nat → Nd × Ad) (bad : Int) (lv : Value) (X : Nat → List Lm × Ad) : ∀ j, j < 297 → wkG fr D bad lv X (0 + 0 + j) = clG fr D j := fun j hj => by
  rw [show 0 + 0 + j = j by omega]
  exact wkF_cl hj
theorem wkG_fr (fr fr' : Int) (D : Nat → Nd × Ad) (bad : Int) (lv : Value) (X : Nat → List Lm × Ad) : ∀ j, j < 303 → stW (wkG fr D bad lv X) (0 + 0 + 0) (.int .i64 fr') j = wkG fr' D bad lv X j := fun j hj => by
  by_cases e : j = 0
  · subst e; rfl
  · rw [stW_other _ _ (by omega)]
    unfold wkG wkF
    by_cases c : j < 297
    · rw [if_pos c, if_pos c]
      unfold clF
      rw [if_neg e, if_neg e]
    · rw [if_neg c, if_neg c]
theorem res_ctt {P : Program} {a : Act} {w : World} {fn : Func} {p p' p2 : Nat} {ty : TypeId} {b n N cap : Nat} {t : TypeId} {g : Nat → Value} {u v : Value} (h : fn.results = #[.cell p ty, .tmp p', .tmp p2]) (hv : a.eval (.tmp p) = .pointer (some ⟨b, 0, none⟩)) (hv' : a.eval (.tmp p') = u) (hv2 : a.eval (.tmp p2) = v) (T : Many P ty n) (hm : Vh t w b N cap g) (hn : n ≤ N) :
    (results fn a.tmps).run P w = .ok (.tuple #[agV g 0 n, u, v]) w := by
  have e := getD_ev hv; have e2 := getD_ev hv'; have e3 := getD_ev hv2
  simp only [Array.getD_eq_getD_getElem?] at e e2 e3
  simp [results, h, e, e2, e3, asAddr, run_cellR T hm hn]
theorem map_ok {L : List Lm} {l : List Ms} (e : L.map Lm.m = l) (h : ∀ m, m ∈ l → MsOK m) : ∀ c, c ∈ L → MsOK c.m := fun c hc => h _ (by rw [← e]; exact List.mem_map_of_mem hc)
theorem wk_id {x : Ip} {c : Cl} (hE : frE x c = 0) {k i : Nat} (hk : k ≤ 5) (hi : i < 4) : ((wkK x c k).nd i).id = (i : Nat) := by
  by_cases g : (i : Int) = x.bad
  · rw [wkK_bad g]; exact id0 hE hi
  · have : k = 0 ∨ k = 1 ∨ k = 2 ∨ k = 3 ∨ k = 4 ∨ k = 5 := by omega
    rcases this with rfl | rfl | rfl | rfl | rfl | rfl
    · exact id0 hE hi
    · exact id1 hE hi g
    · exact id2 hE hi g
    · exact id3 hE hi g
    · exact id4 hE hi g
    · exact id5 hE hi g
theorem mg_ok {x : Ip} {c : Cl} (hx : IpOK x) (hc : ClsOK c) {k j : Nat} (hj : j < 4) (g : (j : Int) ≠ x.bad) : MsOK (wkM x c.fr (wkK x c k) k j) := by
  have h : MsOK (mgK x c k j) := by
    rw [mgK_at g]
    exact phM_ok k ((wk_ok hx hc k).1 j hj) (MsOK.R' ((wk_ok hx hc k).2 j hj)) hc.1 (hx.rd j)
  exact h
theorem bx_len {x : Ip} {c : Cl} (h : x.ly.length ≤ 400) (k i : Nat) : ((wkK x c k).bx i).length ≤ 1600 := by
  cases k with
  | zero => exact Nat.zero_le _
  | succ k => exact bxM_len h _ _ _ 4
theorem clL_fr {x : Ip} {c : Cl} (hE : frE x c = 0) {Dn : Nat → Nd} {Bn : Nat → List Ms} (h1 : ∀ i, i < 4 → Dn i = (wkK x c 5).nd i) (h2 : ∀ i, i < 4 → Bn i = (wkK x c 5).bx i) : clL x.bad Dn Bn 4 = frR x c := by
  unfold clL frR
  rw [if_pos hE]
  refine List.map_congr_left fun i hi => ?_
  unfold gdL at hi
  obtain ⟨h3, h4⟩ := List.mem_filter.1 hi
  have h3 := List.mem_range.1 h3
  have h4 : (i : Int) ≠ x.bad := of_decide_eq_true h4
  unfold frN
  rw [if_neg h4, h1 i h3, h2 i h3]
/-- What Frame is held to, whoever wrote it. -/
def FrOK (fn : Nat) : Prop := ∀ (x : Ip) (fr : Int) (D : Nat → Nd × Ad) (lo : Option Addr) (lc : Nat) (LL : List Lj) (w : World), x.ly = LL.map Lj.y → IpOK x → ClsOK ⟨fr, fun i => (D i).1⟩ → (∀ i, i < 4 → AgRd w (D i).1 (D i).2.1 (D i).2.2) → JRd w lo LL →
  Calls Tryz.prog fn #[agV (clG fr D) 0 297, agV (ipF x.rd x.bad (.slice lo LL.length lc)) 0 14] w fun e w' => ∃ (D' : Nat → Nd × Ad) (v : Value), e = .returned (.tuple #[agV (clG (frC x ⟨fr, fun i => (D i).1⟩).fr D') 0 297, v, .int .i64 (frE x ⟨fr, fun i => (D i).1⟩)]) ∧ (∀ i, i < 4 → (D' i).1 = (frC x ⟨fr, fun i => (D i).1⟩).nd i) ∧
    Cx w w' [ownI w.heap.size 86 14 v (frR x ⟨fr, fun i => (D i).1⟩).length (rwS rpF 14 (frR x ⟨fr, fun i => (D i).1⟩)), agI w.heap.size D']
set_option maxHeartbeats 1000000 in
theorem frame_ok : FrOK 5 := by
  intro x fr D lo lc LL w hx hip hcl hag hj
  have hxl : x.ly.length = LL.length := by rw [hx, List.length_map]
  obtain ⟨c, ec⟩ : ∃ c, c = (⟨fr, fun i => (D i).1⟩ : Cl) := ⟨_, rfl⟩
  rw [← ec] at hcl ⊢
  refine enterF Tryz.func5 rfl 56 rfl (of_decide_eq_true rfl) (fun A hs hd hb => ?_)
  have b0 : A.eval (.tmp 0) = agV (clG fr D) 0 297 := hb 0 _ rfl
  have b1 : A.eval (.tmp 1) = agV (ipF x.rd x.bad (.slice lo LL.length lc)) 0 14 := hb 1 _ rfl
  clear hb
  have H := Cx.start w
  refine c_rs (m_start ?_)
  refine q_box H ?_
  intro w1 H z1
  refine q_box H ?_
  intro w2 H z2
  refine q_al H ?_
  intro w3 H z3
  iterate 2 refine qa ?_
  refine l_nx ?_
  refine c_nx ?_
  refine c_rs ?_
  iterate 2 refine qa ?_
  have hck := clCheck_any x fr D lo lc w3
  rw [hxl, ← ec] at hck
  refine q_c2 hck ?_
  rintro e w4 ⟨rfl, k4⟩
  refine ⟨_, rfl, ?_⟩
  replace H := H.call k4
  repeat first | refine qa ?_ | refine l_nx ?_ | refine c_rs ?_
  refine q_if (fun h => ?_) (fun h => ?_)
  · have hE : frE x c ≠ 0 := of_decide_eq_true h
    refine c_rs ?_
    refine qg (run_bldC0 rfl _) ?_
    refine qa ?_
    refine q_sp H.a0 stP_whole (clF_one _ _ _ _) ?_
    intro w5 H z5
    repeat first | refine qa ?_ | refine l_nx ?_
    have e1 : frC x c = zeroC := by unfold frC; rw [if_neg hE]
    have e2 : frR x c = [] := by unfold frR; rw [if_neg hE]
    refine c_ret (r_nx (ret_of ((defL _ _).trans hd) (res_ctt rfl Qv Qv Qv ManyK.out H.v0 (Nat.le_refl _)) ⟨fun _ => (zeroN, (none, 0)), _, by rw [e1]; rfl, fun i hi => by rw [e1]; rfl, ?_⟩))
    rw [e2]
    exact ((H.tl.tl.tl.add (Below.refl _ _) (agI w.heap.size (fun _ => (zeroN, (none, 0)))) (fun _ _ => World.ownsRow_nil _ _ _ _) (fun j ⟨_, _, e⟩ => absurd e (fun e => nomatch e))).add (Below.refl _ _) (ownI _ _ _ _ _ _) (World.ownsRow_nil _ _ _ _) (fun j e => nomatch e))
  have hE : frE x c = 0 := by simpa using h
  obtain ⟨hb, hf, hl4, hid0⟩ := frE_ok hE
  have hl4 : LL.length ≤ 400 := by omega
  refine c_fin ?_
  refine c_rs ?_
  iterate 2 refine qa ?_
  have hat := atWork_any x fr D lo lc w w4 _ hag (by have := hcl.2; rw [ec] at this; exact this) H
  rw [hxl] at hat
  refine q_c2 hat ?_
  rintro e w5 ⟨b, D1, rfl, hD1, H⟩
  refine ⟨_, rfl, ?_⟩
  refine qa ?_
  refine l_nx ?_
  refine c_nx ?_
  refine c_rs ?_
  iterate 3 refine qa ?_
  refine qg (Eq.trans (run_loadP _ _ rfl ManyK.out Qv H.v3 (by omega)) (by rw [agV_cong (f := rd4F x.rd) (fun j hj => by rw [show 0 + 0 + j = j by omega]; exact if_pos hj)])) ?_
  refine q_c2 (phases_any fr x.rd w w5 _ H) ?_
  rintro e w6 ⟨fb, rb, pb, rfl, H⟩
  refine ⟨_, rfl, ?_⟩
  repeat first | refine qa ?_ | refine l_nx ?_
  refine c_block ?_
  have hNd : ∀ (k : Nat) (D : Nat → Nd × Ad), (∀ i, i < 4 → (D i).1 = (wkK x c k).nd i) → k ≤ 5 → (∀ i, i < 4 → (D i).1.id = (i : Nat)) ∧ ∀ i, i < 4 → NdOK (D i).1 := fun k D hD hk => ⟨fun i hi => by rw [hD i hi]; exact wk_id hE hk hi, fun i hi => by rw [hD i hi]; exact (wk_ok hip hcl k).1 i hi⟩
  have hBx : ∀ (k : Nat) (X : Nat → List Lm × Ad), (∀ i, i < 4 → (X i).1.map Lm.m = (wkK x c k).bx i) → ∀ i, i < 4 → (X i).1.length ≤ 1600 ∧ ∀ c, c ∈ (X i).1 → MsOK c.m := fun k X hX i hi => ⟨by
    have h1 := congrArg List.length (hX i hi)
    rw [List.length_map] at h1
    rw [h1]
    exact bx_len (by omega) k i, map_ok (hX i hi) ((wk_ok hip hcl k).2 i hi)⟩
  have ecf : c.fr = fr := by rw [ec]
  refine c_loop (fun r A W => ∃ (k : Nat) (D : Nat → Nd × Ad) (X : Nat → List Lm × Ad), k ≤ 5 ∧ 5 - k ≤ r ∧ A.tmps.size = 56 ∧ A.defers = [] ∧ A.eval (.tmp 4) = .pointer (some ⟨w2.heap.size, 0, none⟩) ∧ A.eval (.tmp 8) = .pointer (some ⟨b, 0, none⟩) ∧ A.eval (.tmp 26) = .slice (some ⟨pb, 0, none⟩) 5 5 ∧ A.eval (.tmp 27) = .int .i64 ((5 : Nat) : Int) ∧ A.eval (.tmp 28) = .int .i64 (k : Int) ∧ (∀ i, i < 4 → (D i).1 = (wkK x c k).nd i) ∧ (∀ i, i < 4 → (X i).1.map Lm.m = (wkK x c k).bx i) ∧
      Cx w W [agI w.heap.size D, cpI fb rb fr x.rd, vhI 74 b 303 303 (wkG fr D x.bad (.slice lo LL.length lc) X), bxI w.heap.size X, vhI 63 pb 5 5 (phV fb rb), vhI 40 w2.heap.size 297 297 (clF 0 (fun _ => zeroN) (fun _ => slV (none, 0) 0))]) 5
    ⟨0, D1, fun _ => ([], (none, 0)), Nat.zero_le _, by omega, (szL _ _).trans hs, (defL _ _).trans hd, Qv, Qv, Qv, Qv, Qv, fun i hi => (by rw [hD1 i hi, ec]; rfl), fun _ _ => rfl,
      ((H.f6.tl.f5.tl.add (Below.refl _ _) (bxI w.heap.size (fun _ => ([], (none, 0)))) (fun _ _ => OwnM.nil _ _) (fun j ⟨_, _, e⟩ => absurd (om_up (OwnM.nil w6 w6.heap.size) j e) (by rcases e with e | ⟨_, e, _⟩ <;> cases e))).b4.f1.f2.f3.b4.f3.f1.f2.b1).f4.b2⟩ (fun r B W hI => ?_)
  clear b0 b1 hs hd H
  obtain ⟨k, D, X, hk, hr, hs, hd, b4, b8, b26, b27, b28, hD, hX, H⟩ := hI
  refine c_rs (m_start ?_)
  repeat first | refine qa ?_ | refine l_nx ?_ | refine c_rs ?_ | refine c_nx ?_
  refine q_if (fun h => ?_) (fun h => ?_)
  · have hin : k < 5 := by have := of_decide_eq_true h; omega
    refine c_fin ?_
    refine c_nx (c_block ?_)
    refine c_rs ?_
    iterate 2 refine qa ?_
    refine qg (Eq.trans (run_lod1 _ _ rfl OneK.out Qv H.v4 (by omega) rfl) (by rw [show 0 + k * 1 = k by omega])) ?_
    repeat first | refine qa ?_ | refine l_nx ?_ | refine c_region ?_
    obtain ⟨n1, n2⟩ := hNd k D hD hk
    refine q_c2 (do_k x fr k hin fb rb b D (.slice lo LL.length lc) X w W _ (by rw [← ecf]; exact hcl.1) hip.rd n1 n2 (hBx k X hX) H) ?_
    rintro e w7 ⟨D', T, rfl, hD', hT, H⟩
    refine ⟨_, rfl, ?_⟩
    refine q_c3 (send_any x b fr D' lo lc LL X k T w w7 _ H.f4.f4 hx hj hl4 (fun j hj hb => ?_)) ?_
    · rw [hT j hj, (wkN_of (k := k) (x := x) (fr := fr) (s' := wkK x c k) (i := j) (hD j hj) (hX j hj)).2, ← ecf]
      exact mg_ok hip hcl hj hb
    · rintro e w8 ⟨rfl, X', hX', H⟩
      refine ⟨_, rfl, ?_⟩
      refine l_finB ?_
      refine c_region ?_
      repeat refine qa ?_
      refine l_round ⟨5 - (k + 1), by omega, k + 1, D', X', by omega, by omega, (szL _ _).trans hs, (defL _ _).trans hd, Qv, Qv, Qv, Qv, Eq.trans Qv (by rw [Int.natCast_add]; rfl), fun i hi => ?_, fun i hi => ?_, H.f2.tl.f2.f3.f1⟩
      · rw [hD' i hi, (wkN_of (k := k) (x := x) (fr := fr) (s' := wkK x c k) (i := i) (hD i hi) (hX i hi)).1]
        show _ = wkN x c.fr (wkK x c k) k i
        rw [ecf]
      · rw [hX' i hi]
        show _ = bxM x (wkM x c.fr (wkK x c k) k) i k 4
        refine bxM_congr fun j hj => ?_
        rw [hT j hj, (wkN_of (k := k) (x := x) (fr := fr) (s' := wkK x c k) (i := j) (hD j hj) (hX j hj)).2, ecf]
  · obtain rfl : k = 5 := by have := of_decide_eq_false h; omega
    obtain ⟨n1, n2⟩ := hNd 5 D hD (Nat.le_refl _)
    refine c_exit (x_out ?_)
    refine c_rs ?_
    refine qa ?_
    refine q_c1 (closed_any b fr D x.bad (.slice lo LL.length lc) X w W _ n1 n2 (hBx 5 X hX) H.f1.tl) ?_
    rintro e w7 ⟨D', v, rfl, hD', H⟩
    refine ⟨_, rfl, ?_⟩
    repeat first | refine qa ?_ | refine l_nx ?_ | refine c_rs ?_
    refine q_st H.a2 (wkG_fr fr (fr + 1) D' x.bad (.slice lo LL.length lc) X) ?_
    intro w8 H z8
    refine l_nx ?_
    refine c_rs ?_
    iterate 3 refine qa ?_
    refine qg (Eq.trans (run_loadP _ _ rfl ManyK.out Qv H.v2 (by omega)) (by rw [agV_cong (clG_congr _ _ _ _ _)])) ?_
    refine qa ?_
    refine q_sp H.a5 stP_whole (clG_one _ _) ?_
    intro w9 H z9
    repeat first | refine qa ?_ | refine l_nx ?_
    have e1 : frC x c = ⟨fr + 1, frN x c⟩ := by unfold frC; rw [if_pos hE, ecf]
    have e2 := clL_fr hE hD hX
    rw [e2] at H
    refine c_ret (ret_of ((defL _ _).trans hd) (res_ctt rfl Qv Qv Qv ManyK.out H.v5 (Nat.le_refl _)) ⟨D', v, by rw [e1, hE], fun i hi => ?_, H.sub (List.Sublist.cons_cons _ (List.Sublist.cons_cons _ (List.nil_sublist _)))⟩)
    rw [e1, hD' i hi]
    show doN _ _ _ _ _ = frN x c i
    unfold doN frN
    by_cases g : (i : Int) = x.bad
    · rw [if_pos g, if_pos g, hD i hi, wkK_bad g]
    · rw [if_neg g, if_neg g, hD i hi, hX i hi]

end Go.Proofs.YthimcecbgpamdaaGreat

namespace Go.Proofs.YthimcecbgpamdaaGreat
open Go.RowKit

theorem enter_mbegin (w : World) : (callFunc 92 #[]).run Tryz.prog w = .ok (.enter 92 #[]) w := by go_simp
theorem enter_fbegin (x : Value) (w : World) : (callFunc 93 #[x]).run Tryz.prog w = .ok (.enter 93 #[x]) w := by go_simp
theorem filBegS_any (w : World) : Calls Tryz.prog 93 #[.int .i64 0] w fun e w' => e = .returned (agV (nstF St.beg0) 0 7) ∧ Below w.heap.size w w' := by
  go_enter Tryz.func93, Tryz.ntmps93
  go_wp2_with fail
  refine bodyPost_ret (v := agV (nstF St.beg0) 0 7) (by simp [results, Tryz.results93, go_sem]; rfl) rfl ⟨rfl, ?_⟩
  exact (Below.refl _ _).alloc (Nat.le_refl _) _
set_option maxHeartbeats 2000000 in
theorem nodeBegin_ok : BnOK 57 := by
  intro id t w _ _
  refine enterF Tryz.func57 rfl 25 rfl (of_decide_eq_true rfl) (fun A hs hd hb => ?_)
  have b0 : A.eval (.tmp 0) = .int .i64 id := hb 0 _ rfl
  have b1 : A.eval (.tmp 1) = agV (ntnF t) 0 4 := hb 1 _ rfl
  clear hb
  refine c_rs (m_start ?_)
  refine m_do rfl (wanted_rd rfl) (fun K hK => ?_)
  refine wp_boxG _ _ _ rfl (ev_out rfl b1) (of_decide_eq_true rfl) ?_
  intro w1 m1 k1 z1
  refine hK _ _ ?_
  clear hK K
  refine m_do rfl (wanted_rd rfl) (fun K hK => ?_)
  refine wp_allocG _ _ rfl zeroNd (of_decide_eq_true rfl) ?_
  intro w2 m2 k2 z2
  have mt2 := m1.below k2
  refine hK _ _ ?_
  clear hK K
  refine m_mv rfl (wanted_rd rfl) (run_assign _ rfl (ev_const _ _) _) ?_
  refine l_nx ?_
  refine c_nx ?_
  refine c_rs ?_
  refine m_mv rfl (wanted_rd rfl) (run_move _ rfl (ev_out rfl b0) _) ?_
  refine m_do rfl (wanted_rd rfl) (fun K hK => ?_)
  refine wp_call1 _ 59 _ _ rfl (ev_in rfl (by omega)) (enter_pisNode _ _) (isNode_any id _) ?_
  rintro e w3 ⟨rfl, k3⟩
  have n3 := k3.size
  have mt3 := mt2.below k3
  have mr3 := m2.below k3
  refine ⟨_, rfl, ?_⟩
  refine hK _ _ ?_
  clear hK K
  refine m_mv rfl (wanted_rd rfl) (run_notB _ _ rfl (ev_in rfl (by omega)) _) ?_
  refine l_nx ?_
  refine c_cond (t := noN id) ((ev_in rfl (by omega)).trans (by rw [Bool.not_not])) (fun hno => ?_) (fun hno => ?_)
  · have e1 : begN id t = zeroN := by unfold begN; rw [hno]; rfl
    have e2 : begE id = 3 := by unfold begE; rw [hno]; rfl
    refine c_rs ?_
    refine m_mv rfl (wanted_rd rfl) (run_bldN0 rfl _) ?_
    refine m_st (wanted_rd rfl) (fun K hK => ?_)
    refine wp_storeP _ _ _ _ rfl manyNd (ev_in rfl (by omega)) (ev_in rfl (by omega)) mr3 (by decide) (ndF_one _ _ _ _) rfl ?_
    intro w4 mm4 k4 z4
    have mr4 := Vh.congr mm4 (stP_all _ _)
    have mt4 := mt3.kept k4 (by omega)
    refine hK _ ?_
    clear hK K
    refine m_mv rfl (wanted_rd rfl) (run_assign _ rfl (ev_const _ _) _) ?_
    refine l_nx ?_
    refine c_ret ?_
    simp only [Nx, Exit.then]
    rw [e1, e2]
    refine ret_of ((defL _ _).trans hd) (res_ct rfl (ev_in rfl (by omega)) (ev_in rfl (by omega)) manyNd mr4 (Nat.le_refl _)) ⟨none, 0, rfl, World.ownsRow_nil _ _ _ _, below_of_kept ((k1.trans (k2.mono (by omega))).trans (k3.mono (by omega))) k4 (by omega) (by omega)⟩
  · have e1 : begN id t = bgN id t (fun _ => St.beg0) := by unfold begN; rw [hno]; rfl
    have e2 : begE id = 0 := by unfold begE; rw [hno]; rfl
    refine c_fin ?_
    refine c_nx ?_
    have hS0 : (fun W => Vh 23 W w.heap.size 4 4 (ntnF t)) w3.drew := mt3
    have mr0 : Vh _ w3.drew _ _ _ _ := mr3
    have ez : w3.drew.heap.size = w3.heap.size := rfl
    have kA : Below w.heap.size w w3.drew := below_drew ((k1.trans (k2.mono (by omega))).trans (k3.mono (by omega)))
    refine c_rj (S := fun W => Vh 23 W w.heap.size 4 4 (ntnF t)) (.mv 0 (.rd 1 (.two 2 4 (.mv 3 (.go 4 (.go 5 .fin))) (.go 2 (.mv 3 (.go 5 .fin)))))) [] (by kernel_rfl) (by kernel_rfl) ?_
    refine j_mv rfl rfl (fun _ _ _ h => h) (wanted_rd rfl) (fun _ => run_move _ rfl (ev_out rfl b0) _) ?_
    refine j_rd rfl rfl (fun _ _ _ h => h) (wanted_rd rfl) hS0 (fun _ hS => run_loadPe _ _ rfl manyTn (ev_in rfl (by omega)) hS (by omega) (fun j _ => by rw [Nat.zero_add])) ?_
    refine j_two ?_ ?_
    · refine j_do rfl rfl (wanted_rd rfl) (fun K hK => ?_)
      refine wp_call0 _ 92 _ rfl (enter_mbegin _) (memberBegin_ok _) ?_
      rintro e w4 ⟨rfl, k4⟩
      have n4 := k4.size
      have mt4 := hS0.below k4
      have mr4 := mr0.below k4
      refine ⟨_, rfl, ?_⟩
      refine hK _ _ (fun _ _ => mt4) ?_
      clear hK K
      refine j_mv rfl rfl (fun _ _ _ h => h) (wanted_rd rfl) (fun _ => run_bldN _ _ _ rfl (id := id) (t := t) (r := beginR) (ev_in rfl (by omega)) (ev_in rfl (by omega)) (ev_in rfl (by omega)) _) ?_
      refine j_do rfl rfl (wanted_rd rfl) (fun K hK => ?_)
      refine wp_allocG _ _ rfl zeroNd (of_decide_eq_true rfl) ?_
      intro w5 m5 k5 z5
      have mt5 := mt4.below k5
      have mr5 := mr4.below k5
      refine hK _ _ (fun _ _ => mt5) ?_
      clear hK K
      refine j_st rfl (wanted_rd rfl) (fun K hK => ?_)
      refine wp_storeP _ _ _ _ rfl manyNd (ev_in rfl (by omega)) (ev_in rfl (by omega)) m5 (by decide) (ndF_one _ _ _ _) rfl ?_
      intro w6 mm6 k6 z6
      have mp6 := Vh.congr mm6 (stP_all _ _)
      have mt6 := mt5.kept k6 (by omega)
      have mr6 := mr5.kept k6 (by omega)
      refine hK _ (fun _ _ => mt6) ?_
      clear hK K
      refine j_nx ?_
      refine c_nx ?_
      refine c_rs ?_
      refine m_mv rfl (wanted_rd rfl) (run_move _ rfl (ev_const _ _) _) ?_
      refine l_nx ?_
      refine c_block ?_
      refine c_loop (fun r a W => ∃ x : Nat, x ≤ 3 ∧ 3 - x ≤ r ∧ a.tmps.size = 25 ∧ a.defers = [] ∧ a.eval (.tmp 4) = .pointer (some ⟨w1.heap.size, 0, none⟩) ∧ a.eval (.tmp 6) = .pointer (some ⟨w4.heap.size, 0, none⟩) ∧ a.eval (.tmp 16) = .int .i64 (x : Int) ∧ Vh 37 W w1.heap.size 74 74 (ndF zeroN (.slice none 0 0)) ∧ Vh 37 W (w4.heap.size) 74 74 (ndF (bgN id t (bgA x)) (.slice none 0 0)) ∧ Below w.heap.size w W ∧ w6.heap.size ≤ W.heap.size) 3 ⟨0, by omega, by omega, (szL _ _).trans hs, (defL _ _).trans hd, (ev_in rfl (by omega)), (ev_in rfl (by omega)), (ev_in rfl (by omega)), mr6, by rw [bgA_zero]; exact mp6, below_of_kept ((kA.trans (k4.mono (by omega))).trans (k5.mono (by omega))) k6 (by omega) (by omega), by omega⟩ (fun r B W hI => ?_)
      clear b0 b1 hs hd
      obtain ⟨x, hx, hr2, hs, hd, b4, b6, b16, mr, mp, kB, hW⟩ := hI
      by_cases hin : x < 3
      · refine c_rs (m_start ?_)
        refine m_mv rfl (wanted_rd rfl) (run_lssI (b := true) _ _ rfl (ev_out rfl b16) (ev_const _ _) (decide_eq_true (by omega)) _) ?_
        refine l_nx ?_
        refine c_nx (c_true (ev_in rfl (by omega)) (c_fin ?_))
        refine c_nx (c_block ?_)
        refine c_rs ?_
        refine m_mv rfl (wanted_rd rfl) (run_move _ rfl (ev_out rfl b16) _) ?_
        refine m_mv rfl (wanted_rd rfl) (run_assign _ rfl (ev_in rfl (by omega)) _) ?_
        refine l_nx ?_
        refine c_region ?_
        refine m_mv rfl (wanted_rd rfl) (run_move _ rfl (ev_in rfl (by omega)) _) ?_
        refine m_do rfl (wanted_rd rfl) (fun K hK => ?_)
        refine wp_call1 _ 93 _ _ rfl (ev_const _ _) (enter_fbegin _ _) (filBegS_any _) ?_
        rintro e w11 ⟨rfl, k11⟩
        have n11 := k11.size
        have mr11 := mr.below k11
        have mp11 := mp.below k11
        refine ⟨_, rfl, ?_⟩
        refine hK _ _ ?_
        clear hK K
        refine m_mv rfl (wanted_rd rfl) (fldNd3 rfl (ev_out rfl b6) _) ?_
        refine m_mv rfl (wanted_rd rfl) (run_ixG _ _ _ _ rfl Tryz.underlying26 manySt.size (ev_in rfl (by omega)) (ev_in rfl (by omega)) rfl hin _) ?_
        refine m_st (wanted_rd rfl) (fun K hK => ?_)
        refine wp_storeP _ _ _ _ rfl manySt (ev_in rfl (by omega)) (ev_in rfl (by omega)) mp11 (by omega) (nstF_one _) rfl ?_
        intro w12 mm12 k12 z12
        have mp12 : Vh 37 w12 (w4.heap.size) 74 74 (ndF (bgN id t (bgA (x + 1))) (.slice none 0 0)) := by rw [← bgA_next]; exact Vh.congr mm12 (upd_axAt _ _ _ x hin)
        have mr12 := mr11.kept k12 (by omega)
        refine hK _ ?_
        clear hK K
        refine l_finB ?_
        refine c_region ?_
        refine m_mv rfl (wanted_rd rfl) (run_addI _ _ rfl (ev_out rfl b16) (ev_const _ _) (by omega) (by omega) _) ?_
        refine m_mv rfl (wanted_rd rfl) (run_move _ rfl (ev_in rfl (by omega)) _) ?_
        exact l_round ⟨3 - (x + 1), by omega, x + 1, by omega, by omega, (szL _ _).trans hs, (defL _ _).trans hd, (ev_out rfl b4), (ev_out rfl b6), (ev_in rfl (by omega)).trans (by rw [Int.natCast_add]; rfl), mr12, mp12, below_of_kept (kB.trans (k11.mono (by omega))) k12 (by omega) (by omega), by omega⟩
      · refine c_rs (m_start ?_)
        refine m_mv rfl (wanted_rd rfl) (run_lssI (b := false) _ _ rfl (ev_out rfl b16) (ev_const _ _) (decide_eq_false (by omega)) _) ?_
        obtain rfl : x = 3 := by omega
        rw [bgF_done] at mp
        refine l_nx ?_
        refine c_nx (c_false (ev_in rfl (by omega)) (c_exit (x_out ?_)))
        refine c_rs ?_
        refine m_mv rfl (wanted_rd rfl) (run_loadP _ _ rfl manyNd (ev_out rfl b6) mp (by decide)) ?_
        refine m_st (wanted_rd rfl) (fun K hK => ?_)
        refine wp_storeP _ _ _ _ rfl manyNd (ev_out rfl b4) (ev_in rfl (by omega)) mr (by decide) (ndF_one _ _ _ _) rfl ?_
        intro w11 mm11 k11 z11
        have mr11 := Vh.congr mm11 (stP_all _ _)
        have mp11 := mp.kept k11 (by omega)
        refine hK _ ?_
        clear hK K
        refine m_mv rfl (wanted_rd rfl) (run_assign _ rfl (ev_const _ _) _) ?_
        refine l_nx ?_
        refine c_ret ?_
        rw [e1, e2]
        refine ret_of ((defL _ _).trans hd) (res_ct rfl (ev_out rfl b4) (ev_in rfl (by omega)) manyNd mr11 (Nat.le_refl _)) ⟨none, 0, rfl, World.ownsRow_nil _ _ _ _, below_of_kept kB k11 (by omega) (by omega)⟩
    · refine j_do rfl rfl (wanted_rd rfl) (fun K hK => ?_)
      refine wp_allocG _ _ rfl zeroNd (of_decide_eq_true rfl) ?_
      intro w4 m4 k4 z4
      have mt4 := hS0.below k4
      have mr4 := mr0.below k4
      refine hK _ _ (fun _ _ => mt4) ?_
      clear hK K
      refine j_do rfl rfl (wanted_rd rfl) (fun K hK => ?_)
      refine wp_call0 _ 92 _ rfl (enter_mbegin _) (memberBegin_ok _) ?_
      rintro e w5 ⟨rfl, k5⟩
      have n5 := k5.size
      have mt5 := mt4.below k5
      have mr5 := mr4.below k5
      have mp5 := m4.below k5
      refine ⟨_, rfl, ?_⟩
      refine hK _ _ (fun _ _ => mt5) ?_
      clear hK K
      refine j_mv rfl rfl (fun _ _ _ h => h) (wanted_rd rfl) (fun _ => run_bldN _ _ _ rfl (id := id) (t := t) (r := beginR) (ev_in rfl (by omega)) (ev_in rfl (by omega)) (ev_in rfl (by omega)) _) ?_
      refine j_st rfl (wanted_rd rfl) (fun K hK => ?_)
      refine wp_storeP _ _ _ _ rfl manyNd (ev_in rfl (by omega)) (ev_in rfl (by omega)) mp5 (by decide) (ndF_one _ _ _ _) rfl ?_
      intro w6 mm6 k6 z6
      have mp6 := Vh.congr mm6 (stP_all _ _)
      have mt6 := mt5.kept k6 (by omega)
      have mr6 := mr5.kept k6 (by omega)
      refine hK _ (fun _ _ => mt6) ?_
      clear hK K
      refine j_nx ?_
      refine c_nx ?_
      refine c_rs ?_
      refine m_mv rfl (wanted_rd rfl) (run_move _ rfl (ev_const _ _) _) ?_
      refine l_nx ?_
      refine c_block ?_
      refine c_loop (fun r a W => ∃ x : Nat, x ≤ 3 ∧ 3 - x ≤ r ∧ a.tmps.size = 25 ∧ a.defers = [] ∧ a.eval (.tmp 4) = .pointer (some ⟨w1.heap.size, 0, none⟩) ∧ a.eval (.tmp 6) = .pointer (some ⟨w3.drew.heap.size, 0, none⟩) ∧ a.eval (.tmp 16) = .int .i64 (x : Int) ∧ Vh 37 W w1.heap.size 74 74 (ndF zeroN (.slice none 0 0)) ∧ Vh 37 W (w3.drew.heap.size) 74 74 (ndF (bgN id t (bgA x)) (.slice none 0 0)) ∧ Below w.heap.size w W ∧ w6.heap.size ≤ W.heap.size) 3 ⟨0, by omega, by omega, (szL _ _).trans hs, (defL _ _).trans hd, (ev_in rfl (by omega)), (ev_in rfl (by omega)), (ev_in rfl (by omega)), mr6, by rw [bgA_zero]; exact mp6, below_of_kept ((kA.trans (k4.mono (by omega))).trans (k5.mono (by omega))) k6 (by omega) (by omega), by omega⟩ (fun r B W hI => ?_)
      clear b0 b1 hs hd
      obtain ⟨x, hx, hr2, hs, hd, b4, b6, b16, mr, mp, kB, hW⟩ := hI
      by_cases hin : x < 3
      · refine c_rs (m_start ?_)
        refine m_mv rfl (wanted_rd rfl) (run_lssI (b := true) _ _ rfl (ev_out rfl b16) (ev_const _ _) (decide_eq_true (by omega)) _) ?_
        refine l_nx ?_
        refine c_nx (c_true (ev_in rfl (by omega)) (c_fin ?_))
        refine c_nx (c_block ?_)
        refine c_rs ?_
        refine m_mv rfl (wanted_rd rfl) (run_move _ rfl (ev_out rfl b16) _) ?_
        refine m_mv rfl (wanted_rd rfl) (run_assign _ rfl (ev_in rfl (by omega)) _) ?_
        refine l_nx ?_
        refine c_region ?_
        refine m_mv rfl (wanted_rd rfl) (run_move _ rfl (ev_in rfl (by omega)) _) ?_
        refine m_do rfl (wanted_rd rfl) (fun K hK => ?_)
        refine wp_call1 _ 93 _ _ rfl (ev_const _ _) (enter_fbegin _ _) (filBegS_any _) ?_
        rintro e w11 ⟨rfl, k11⟩
        have n11 := k11.size
        have mr11 := mr.below k11
        have mp11 := mp.below k11
        refine ⟨_, rfl, ?_⟩
        refine hK _ _ ?_
        clear hK K
        refine m_mv rfl (wanted_rd rfl) (fldNd3 rfl (ev_out rfl b6) _) ?_
        refine m_mv rfl (wanted_rd rfl) (run_ixG _ _ _ _ rfl Tryz.underlying26 manySt.size (ev_in rfl (by omega)) (ev_in rfl (by omega)) rfl hin _) ?_
        refine m_st (wanted_rd rfl) (fun K hK => ?_)
        refine wp_storeP _ _ _ _ rfl manySt (ev_in rfl (by omega)) (ev_in rfl (by omega)) mp11 (by omega) (nstF_one _) rfl ?_
        intro w12 mm12 k12 z12
        have mp12 : Vh 37 w12 (w3.drew.heap.size) 74 74 (ndF (bgN id t (bgA (x + 1))) (.slice none 0 0)) := by rw [← bgA_next]; exact Vh.congr mm12 (upd_axAt _ _ _ x hin)
        have mr12 := mr11.kept k12 (by omega)
        refine hK _ ?_
        clear hK K
        refine l_finB ?_
        refine c_region ?_
        refine m_mv rfl (wanted_rd rfl) (run_addI _ _ rfl (ev_out rfl b16) (ev_const _ _) (by omega) (by omega) _) ?_
        refine m_mv rfl (wanted_rd rfl) (run_move _ rfl (ev_in rfl (by omega)) _) ?_
        exact l_round ⟨3 - (x + 1), by omega, x + 1, by omega, by omega, (szL _ _).trans hs, (defL _ _).trans hd, (ev_out rfl b4), (ev_out rfl b6), (ev_in rfl (by omega)).trans (by rw [Int.natCast_add]; rfl), mr12, mp12, below_of_kept (kB.trans (k11.mono (by omega))) k12 (by omega) (by omega), by omega⟩
      · refine c_rs (m_start ?_)
        refine m_mv rfl (wanted_rd rfl) (run_lssI (b := false) _ _ rfl (ev_out rfl b16) (ev_const _ _) (decide_eq_false (by omega)) _) ?_
        obtain rfl : x = 3 := by omega
        rw [bgF_done] at mp
        refine l_nx ?_
        refine c_nx (c_false (ev_in rfl (by omega)) (c_exit (x_out ?_)))
        refine c_rs ?_
        refine m_mv rfl (wanted_rd rfl) (run_loadP _ _ rfl manyNd (ev_out rfl b6) mp (by decide)) ?_
        refine m_st (wanted_rd rfl) (fun K hK => ?_)
        refine wp_storeP _ _ _ _ rfl manyNd (ev_out rfl b4) (ev_in rfl (by omega)) mr (by decide) (ndF_one _ _ _ _) rfl ?_
        intro w11 mm11 k11 z11
        have mr11 := Vh.congr mm11 (stP_all _ _)
        have mp11 := mp.kept k11 (by omega)
        refine hK _ ?_
        clear hK K
        refine m_mv rfl (wanted_rd rfl) (run_assign _ rfl (ev_const _ _) _) ?_
        refine l_nx ?_
        refine c_ret ?_
        rw [e1, e2]
        refine ret_of ((defL _ _).trans hd) (res_ct rfl (ev_out rfl b4) (ev_in rfl (by omega)) manyNd mr11 (Nat.le_refl _)) ⟨none, 0, rfl, World.ownsRow_nil _ _ _ _, below_of_kept kB k11 (by omega) (by omega)⟩

end Go.Proofs.YthimcecbgpamdaaGreat

namespace Go.Proofs.YthimcecbgpamdaaGreat
open Go.RowKit

/-- What Begin is held to, whoever wrote it. -/
def BgC (fn : Nat) : Prop := ∀ (t : Tn) (w : World), t.Ok → Calls Tryz.prog fn #[agV (ntnF t) 0 4] w fun e w' => ∃ D : Nat → Nd × Ad, e = .returned (agV (clG 0 D) 0 297) ∧ (∀ i, i < 4 → (D i).1 = begN (i : Nat) t) ∧ Cx w w' [agI w.heap.size D]
theorem clBegin_ok : BgC 31 := by
  intro t w ht
  refine enterF Tryz.func31 rfl 19 rfl (of_decide_eq_true rfl) (fun A hs hd hb => ?_)
  have b0 : A.eval (.tmp 0) = agV (ntnF t) 0 4 := hb 0 _ rfl
  clear hb
  have H := Cx.start w
  refine c_rs (m_start ?_)
  refine q_box H ?_
  intro w1 H z1
  refine q_al H ?_
  intro w2 H z2
  refine l_nx ?_
  refine c_rs ?_
  refine q_al H ?_
  intro w3 H z3
  refine l_nx ?_
  refine c_nx ?_
  refine c_rs ?_
  repeat first | refine qa ?_ | refine l_nx ?_
  refine c_block ?_
  refine c_loop (fun r A W => ∃ (i : Nat) (D : Nat → Nd × Ad), i ≤ 4 ∧ 4 - i ≤ r ∧ A.tmps.size = 19 ∧ A.defers = [] ∧ A.eval (.tmp 1) = .pointer (some ⟨w.heap.size, 0, none⟩) ∧ A.eval (.tmp 2) = .pointer (some ⟨w1.heap.size, 0, none⟩) ∧ A.eval (.tmp 3) = .pointer (some ⟨w2.heap.size, 0, none⟩) ∧ A.eval (.tmp 5) = .int .i64 (i : Int) ∧ (∀ j, j < i → (D j).1 = begN (j : Nat) t) ∧
      Cx w W [agI w.heap.size D, vhI 40 w2.heap.size 297 297 (clG 0 D), vhI 40 w1.heap.size 297 297 (clF 0 (fun _ => zeroN) (fun _ => slV (none, 0) 0)), vhI 23 w.heap.size 4 4 (ntnF t)]) 4
    ⟨0, fun _ => (zeroN, (none, 0)), Nat.zero_le _, by omega, (szL _ _).trans hs, (defL _ _).trans hd, Qv, Qv, Qv, Qv, fun j h => absurd h (Nat.not_lt_zero j), H.add (Below.refl _ _) (agI w.heap.size (fun _ => (zeroN, (none, 0)))) (fun _ _ => World.ownsRow_nil _ _ _ _) (fun j ⟨_, _, e⟩ => absurd e (fun e => nomatch e))⟩ (fun r B W hI => ?_)
  clear b0 hs hd H
  obtain ⟨i, D, hi, hr, hs, hd, b1, b2, b3, b5, hD, H⟩ := hI
  refine c_rs (m_start ?_)
  repeat first | refine qa ?_ | refine l_nx ?_ | refine c_rs ?_ | refine c_nx ?_
  refine q_if (fun h => ?_) (fun h => ?_)
  · have hin : i < 4 := by have := of_decide_eq_true h; omega
    refine c_fin ?_
    refine c_nx (c_block ?_)
    refine c_rs ?_
    repeat first | refine qa ?_ | refine l_nx ?_ | refine c_region ?_
    have hsz := H.size
    refine q_c2 (nodeBegin_ok (i : Int) t W (by unfold R64; omega) ht) ?_
    rintro e w4 ⟨a', c', rfl, g1, k4⟩
    refine ⟨_, rfl, ?_⟩
    replace H := H.add k4 (agJ w.heap.size (begN (i : Nat) t, (a', c'))) (rw_base g1 hsz) (fun j e => (g1.lt j e).1)
    iterate 5 refine qa ?_
    refine q_sp H.a2 (fun j hj => Eq.trans (by rw [show 0 + 1 + i * 74 = 1 + i * 74 by omega]; rfl) (clG_set 0 D i (begN (i : Nat) t, (a', c')) j hj)) (ndF_one _ _ _ _) ?_
    intro w5 H z5
    refine l_finB ?_
    refine c_region ?_
    repeat refine qa ?_
    exact l_round ⟨4 - (i + 1), by omega, i + 1, _, by omega, by omega, (szL _ _).trans hs, (defL _ _).trans hd, Qv, Qv, Qv, Eq.trans Qv (by rw [Int.natCast_add]; rfl), fun j hj => (by
      by_cases e : j = i
      · rw [e, upM_same]
      · rw [upM_other _ _ e]; exact hD j (by omega)), four_set (g := agJ w.heap.size) i H⟩
  · obtain rfl : i = 4 := by have := of_decide_eq_false h; omega
    refine c_exit (x_out ?_)
    refine c_rs ?_
    refine qa ?_
    refine q_sp H.a2 stP_whole (clG_one _ _) ?_
    intro w5 H z5
    refine l_nx ?_
    exact c_ret (ret_of ((defL _ _).trans hd) (res_c rfl Qv ManyK.out H.v2 (Nat.le_refl _)) ⟨D, rfl, hD, H.sub (List.Sublist.cons_cons _ (List.nil_sublist _))⟩)

end Go.Proofs.YthimcecbgpamdaaGreat

namespace Go.Proofs.YthimcecbgpamdaaGreat
open Go.RowKit

theorem x_out' {P : Program} {Q : Exit → Act → World → Prop} {J : Act → World → Prop} {a : Act} {w : World} {x y : Code} {id : Nat} (h : CodI P y Q a w) : Nx P x (Exit.then J (Exit.inBlock id (Nx P y Q))) (.exit id) a w := x_out h
/-- An input, and where its lies lie; a list of them. -/
structure Li where
  rd : Nat → Nat → Int
  bad : Int
  LL : List Lj
  lo : Option Addr
  lc : Nat
def Li.x (c : Li) : Ip := ⟨c.rd, c.bad, c.LL.map Lj.y⟩
def inpF (c : Li) : Nat → Value := ipF c.rd c.bad (.slice c.lo c.LL.length c.lc)
structure LiOK (w : World) (c : Li) : Prop where
  ip : IpOK c.x
  jr : JRd w c.lo c.LL
  lc : c.LL.length ≤ c.lc
theorem LiOK.below {w w' : World} {c : Li} (h : LiOK w c) (k : Below w.heap.size w w') : LiOK w' c := ⟨h.ip, h.jr.below k, h.lc⟩
/-- Elements of many cells, read one by one. -/
def RdS {α : Type} (F : α → Nat → Value) (s : Nat) (w : World) (ao : Option Addr) (L : List α) : Prop := 0 < L.length → ∃ b o, ao = some ⟨b, o, none⟩ ∧ ∀ i c, L[i]? = some c → ∀ k, k < s → w.cell? ⟨b, o + i * s + k, none⟩ = some (F c k)
theorem RdS.below {α : Type} {F : α → Nat → Value} {s : Nat} {w w' : World} {ao : Option Addr} {L : List α} (h : RdS F s w ao L) (k : Below w.heap.size w w') : RdS F s w' ao L := fun hl => by
  obtain ⟨b, o, e, hc⟩ := h hl
  exact ⟨b, o, e, fun i c hi j hj => at_below (hc i c hi j hj) k⟩
theorem rdS_own {α : Type} {F : α → Nat → Value} {s : Nat} {e : TypeId} {w : World} {B n cap : Nat} {ao : Option Addr} {L : List α} (h : w.ownsRow B e s (.slice ao n cap) n (rwS F s L)) (hs : 0 < s) : RdS F s w ao L := fun hl => by
  obtain ⟨g, c, e, _, hc⟩ := rwS_rd h hl hs
  cases e
  exact ⟨g, 0, rfl, hc⟩
/-- The inputs with one that is bad, 400 lies at most. -/
def oneL (bad : Int) (c : Li) : Li := ⟨c.rd, bad, c.LL.take 400, c.lo, c.lc⟩
theorem jrd_take {w : World} {ao : Option Addr} {L : List Lj} (h : JRd w ao L) (n : Nat) : JRd w ao (L.take n) := ⟨fun hl => by
  rw [List.length_take] at hl
  obtain ⟨b, o, e, hc⟩ := h.1 (by omega)
  exact ⟨b, o, e, fun i c hi => hc i c (by rw [List.getElem?_take] at hi; split at hi; exact hi; cases hi)⟩, fun c hc => h.2 c (List.mem_of_mem_take hc)⟩
theorem oneL_ok {w : World} {c : Li} {bad : Int} (h : LiOK w c) (hb : R64 bad) : LiOK w (oneL bad c) := ⟨⟨h.ip.rd, hb, fun y hy => h.ip.g y (by
  obtain ⟨z, hz, rfl⟩ := List.mem_map.1 hy
  exact List.mem_map_of_mem (List.mem_of_mem_take hz))⟩, jrd_take h.jr 400, by show (c.LL.take 400).length ≤ c.lc; rw [List.length_take]; have := h.lc; omega⟩
theorem ipF_bad (rd : Nat → Nat → Int) (bad b2 : Int) (lv : Value) : ∀ j, j < 14 → stW (ipF rd bad lv) (0 + 12) (.int .i64 b2) j = ipF rd b2 lv j := by
  intro j hj
  by_cases e : j = 12
  · subst e; rfl
  · rw [stW_other _ _ (by omega)]
    unfold ipF
    rw [if_neg e, if_neg e]
theorem ipF_lies (rd : Nat → Nat → Int) (bad : Int) (lv l2 : Value) : ∀ j, j < 14 → stW (ipF rd bad lv) (0 + 13) l2 j = ipF rd bad l2 j := by
  intro j hj
  by_cases e : j = 13
  · subst e; rfl
  · rw [stW_other _ _ (by omega)]
    unfold ipF
    by_cases e1 : j < 12
    · rw [if_pos e1, if_pos e1]
    · rw [if_neg e1, if_neg e1, if_pos (by omega), if_pos (by omega)]
theorem run_cutL {f : Operand → Value} {o : Oper} (x : Operand) (ho : o.op = .slice 41 x none (some (.const (.int .i64 400))) none) {a : Addr} {n cap : Nat} (hx : f x = .slice (some a) n cap) (hc : f (.const (.int .i64 400)) = .int .i64 400) (h : 400 < n) (hn : n ≤ cap) (w : World) : (execOp f o).run Tryz.prog w = .ok (.value (.slice (some a) 400 cap)) w := by
  have h1 : (400 : Int) ≤ (cap : Int) := by omega
  unfold execOp
  rw [ho]
  dsimp only
  simp only [Option.map_some, Option.map_none]
  rw [hx, hc]
  go_simp
def oneM (bad : Int) (L : List Li) (i : Nat) : List Li := (L.take i).map (oneL bad)
theorem oneM_succ {bad : Int} {L : List Li} {i : Nat} {c : Li} (h : L[i]? = some c) : oneM bad L (i + 1) = oneM bad L i ++ [oneL bad c] := by
  unfold oneM
  rw [List.take_add_one, h, List.map_append]
  rfl
end Go.Proofs.YthimcecbgpamdaaGreat
