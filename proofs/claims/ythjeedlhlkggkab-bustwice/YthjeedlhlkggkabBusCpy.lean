/- Package bus: within, isLink, own, copied, parted. -/
import Derived.Test.YthjeedlhlkggkabStaAll
import Derived.Test.YthjeedlhlkggkabRefBst
namespace Go.Proofs.Ythjeedlhlkggkab
open Go.RowKit

theorem busWithin_any (n l : Int) (w : World) : Calls Try.prog 19 #[.int .i64 n, .int .i64 l] w fun e w' => e = .returned (.bool (decide (0 ≤ n ∧ n ≤ l))) ∧ w' = w := by
  by_cases h1 : 0 ≤ n
  · by_cases h2 : n ≤ l
    · rw [decide_eq_true (⟨h1, h2⟩ : 0 ≤ n ∧ n ≤ l)]
      go_enter Try.func19, Try.ntmps19
      go_wp2_with fail
      go_ret
      exact ⟨rfl, rfl⟩
    · rw [decide_eq_false (fun h => h2 h.2 : ¬ (0 ≤ n ∧ n ≤ l))]
      go_enter Try.func19, Try.ntmps19
      go_wp2_with fail
      go_ret
      exact ⟨rfl, rfl⟩
  · rw [decide_eq_false (fun h => h1 h.1 : ¬ (0 ≤ n ∧ n ≤ l))]
    go_enter Try.func19, Try.ntmps19
    go_wp2_with fail
    go_ret
    exact ⟨rfl, rfl⟩
set_option maxHeartbeats 1000000 in
theorem busLink_any (f t : Int) (w : World) : Calls Try.prog 22 #[.int .i64 f, .int .i64 t] w fun e w' => e = .returned (.bool (decide ((0 ≤ f ∧ f ≤ 3) ∧ (0 ≤ t ∧ t ≤ 3) ∧ f ≠ t))) ∧ w' = w := by
  have C1 := busWithin_any f 3 w
  have C2 := busWithin_any t 3 w
  by_cases h1 : 0 ≤ f ∧ f ≤ 3
  · rw [decide_eq_true h1] at C1
    by_cases h2 : 0 ≤ t ∧ t ≤ 3
    · rw [decide_eq_true h2] at C2
      by_cases h3 : f = t
      · rw [decide_eq_false (fun h => h.2.2 h3 : ¬ ((0 ≤ f ∧ f ≤ 3) ∧ (0 ≤ t ∧ t ≤ 3) ∧ f ≠ t))]
        subst h3
        clear h1 h2
        go_enter Try.func22, Try.ntmps22
        go_wp2_with fail
        refine C1.mono ?_
        rintro e w1 ⟨rfl, rfl⟩
        go_wp2_with fail
        refine C2.mono ?_
        rintro e w2 ⟨rfl, rfl⟩
        go_wp2_with fail
        go_ret
        exact ⟨rfl, rfl⟩
      · rw [decide_eq_true (⟨h1, h2, h3⟩ : (0 ≤ f ∧ f ≤ 3) ∧ (0 ≤ t ∧ t ≤ 3) ∧ f ≠ t)]
        have h3b : (f != t) = true := by rw [bne_iff_ne]; exact h3
        clear h1 h2
        go_enter Try.func22, Try.ntmps22
        go_wp2_with fail
        refine C1.mono ?_
        rintro e w1 ⟨rfl, rfl⟩
        go_wp2_with fail
        refine C2.mono ?_
        rintro e w2 ⟨rfl, rfl⟩
        go_wp2_with fail
        go_ret
        exact ⟨rfl, rfl⟩
    · rw [decide_eq_false h2] at C2
      rw [decide_eq_false (fun h => h2 h.2.1 : ¬ ((0 ≤ f ∧ f ≤ 3) ∧ (0 ≤ t ∧ t ≤ 3) ∧ f ≠ t))]
      clear h1 h2
      go_enter Try.func22, Try.ntmps22
      go_wp2_with fail
      refine C1.mono ?_
      rintro e w1 ⟨rfl, rfl⟩
      go_wp2_with fail
      refine C2.mono ?_
      rintro e w2 ⟨rfl, rfl⟩
      go_wp2_with fail
      go_ret
      exact ⟨rfl, rfl⟩
  · rw [decide_eq_false h1] at C1
    rw [decide_eq_false (fun h => h1 h.1 : ¬ ((0 ≤ f ∧ f ≤ 3) ∧ (0 ≤ t ∧ t ≤ 3) ∧ f ≠ t))]
    clear h1 C2
    go_enter Try.func22, Try.ntmps22
    go_wp2_with fail
    refine C1.mono ?_
    rintro e w1 ⟨rfl, rfl⟩
    go_wp2_with fail
    go_ret
    exact ⟨rfl, rfl⟩
/-- Bytes of one's own. -/
theorem busOwn_any (ba : Option Addr) (bc : Nat) (ds : List Nat) (w : World) (hs : Sr w ba ds.length bc (bF (gF ds))) (hds : ds.length ≤ 140737488351232) :
    Calls Try.prog 23 #[.slice ba ds.length bc] w fun e w' => ∃ a3 c3, e = .returned (.slice a3 ds.length c3) ∧ w'.ownsRow w.heap.size 5 1 (.slice a3 ds.length c3) ds.length (rowV (bF (gF ds)) ds.length) ∧ Below w.heap.size w w' := by
  have HS := hide hs
  clear hs
  go_enter Try.func23, Try.ntmps23
  go_wp2_with (at_builtin; refine wpList_join _ rfl _ _ rfl w.heap.size (Nat.le_refl _) (.slice none 0 0) 0 [] rfl (World.ownsRow_nil _ _ _ _) ba ds.length bc (bF (gF ds)) rfl (unhide HS) (fun i _ => rfl) (by omega) ?_)
  intro v3 w3 o3 k3
  try rw [Nat.zero_add] at o3
  try rw [List.nil_append] at o3
  obtain ⟨a3, c3, rfl, hc3⟩ := ownS_slice o3
  have O3 := hide o3; have K3 := hide k3
  clear o3 k3
  go_wp2_with fail
  go_ret
  exact ⟨a3, c3, rfl, unhide O3, unhide K3⟩

set_option maxHeartbeats 2000000 in
theorem busCopied_any (ao : Option Addr) (cap : Nat) (L : List Lp) (w : World) (hok : ∀ c, c ∈ L → PcOK c.p) (hN : L.length ≤ 2513169434843) (hr : BRd w ao cap L) :
    Calls Try.prog 20 #[.slice ao L.length cap] w fun e w' => ∃ va vc M, e = .returned (.slice va M.length vc) ∧ M.map Lp.p = L.map Lp.p ∧ OwnQ w' w.heap.size (.slice va M.length vc) M ∧ Below w.heap.size w w' := by
  have HR := hide hr; have OK := hide hok
  clear hr hok
  go_enter Try.func20, Try.ntmps20
  go_wp2_with fail
  go_loopw [3, 8] (fun vs is wr => ∃ (i : Nat) (M : List Lp), i ≤ L.length ∧ is = .int .i64 (i : Nat) ∧ M.map Lp.p = (L.take i).map Lp.p ∧ OwnQ wr w.heap.size vs M ∧ Below w.heap.size w wr) (fun _ is _ => L.length - (intOf is).toNat)
  case atStart => exact ⟨0, [], Nat.zero_le _, rfl, rfl, OwnQ.nil _ _, Below.refl _ _⟩
  case round =>
    obtain ⟨i, M, hi, rfl, hM, hO, hB⟩ := hrel
    rename World => wr
    obtain ⟨va, vc, rfl, hvc⟩ := hO.slice
    by_cases hin : i < L.length
    · have hc := List.getElem?_eq_getElem hin
      obtain ⟨c, ec⟩ : ∃ c, c = L[i] := ⟨_, rfl⟩
      rw [← ec] at hc
      have R := (unhide HR).below hB
      obtain ⟨x, o, rfl, hq⟩ := R.1 (by omega)
      obtain ⟨p0, p1, p2, p3, p4⟩ := hq i c hc
      have pr := R.2.2 c (List.mem_of_getElem? hc)
      have po := unhide OK c (List.mem_of_getElem? hc)
      have TK := hide (show (L.take (i + 1)).map Lp.p = (L.take i).map Lp.p ++ [c.p] by rw [List.take_add_one, hc]; simp)
      obtain ⟨⟨fr, to, du, se, ds⟩, ba, bc⟩ := c
      unfold lpV at p4
      dsimp only at p0 p1 p2 p3 p4 pr po TK
      obtain ⟨w2, e2, m2, k2, s2⟩ := pv_alloc wr ⟨fr, to, du, se, ds⟩ (.slice ba ds.length bc)
      dsimp only at e2
      have H2 := hO.below k2
      have B2 := hB.trans (k2.mono hB.size)
      have hds : ds.length ≤ 140737488351232 := po.2.2.2.2.2
      have C := busOwn_any ba bc ds w2 (pr.1.below k2) hds
      have d4 := m2.pc.2.2.2.2
      rw [e2] at d4
      have hN2 : M.length ≤ 2513169434843 := by rw [show M.length = (M.map Lp.p).length by simp, hM]; simp; omega
      have HH := hide H2; have M2 := hide m2; have E2 := hide e2; have Z2 := hide s2; have HM := hide hM; have OLD := hide (And.intro hO hB); have BB := hide B2
      clear hc ec R hq pr po e2 k2 H2 m2 hM hO s2 hB B2
      go_wp2_with fail
      rw [← unhide E2]
      refine C.mono ?_
      rintro e w3 ⟨a3, c3, rfl, o3, k3⟩
      clear C
      have m3 := (unhide M2).below k3
      have H3 := (unhide HH).below k3
      have g4 := m3.pc.2.2.2.2; have fz := m3.free 4
      obtain ⟨w4, e4, m4, k4, s4⟩ := m3.put4 (.slice a3 ds.length c3)
      have z2 := unhide Z2
      have o4 : OwnB w4 w2.heap.size ⟨⟨fr, to, du, se, ds⟩, a3, c3⟩ := ownS_kept o3 k4 (fun e => by have := (o3.lt _ e).1; omega)
      have H4 : OwnQ w4 w.heap.size (.slice va M.length vc) M := ⟨ownS_kept H3.1 k4 (fun e => by have := ((unhide OLD).1.1.lt _ e).2; omega), fun d hd => ownS_kept (H3.2.1 d hd) k4 (fun e => by have := (((unhide OLD).1.2.1 d hd).lt _ e).2; omega), H3.2.2⟩
      have hsz := (unhide OLD).2.size
      have B4 : Below w.heap.size w w4 := below_of_kept ((unhide BB).trans (k3.mono (by omega))) k4 hsz ((unhide BB).trans (k3.mono (by omega))).size
      obtain ⟨q0, q1, q2, q3, q4⟩ := m4.pc
      obtain ⟨w5, e5, m5, k5, s5⟩ := pv_alloc w4 ⟨fr, to, du, se, ds⟩ (.slice a3 ds.length c3)
      rw [s4] at m5
      dsimp only at e5 q0 q1 q2 q3
      have H5 := H4.below k5
      have B5 := B4.trans (k5.mono B4.size)
      have P5 := hide m5.pc
      have O5 := hide (show OwnB w5 w.heap.size ⟨⟨fr, to, du, se, ds⟩, a3, c3⟩ from ownS_base (o4.below k5) (by omega))
      have AP := hide (show ∀ d, d ∈ M → ∀ g, (lpV d).ownBlock = some g → (lpV ⟨⟨fr, to, du, se, ds⟩, a3, c3⟩).ownBlock ≠ some g from fun d hd g hg e => by
        have := (((unhide OLD).1.2.1 d hd).lt g hg).2
        have := (o4.lt g e).1
        omega)
      have E5 := hide e5; have HH5 := hide H5; have E4 := hide e4; have BB5 := hide B5
      rw [e4] at q0 q1 q2 q3 q4
      clear o3 k3 m3 H3 e4 m4 k4 s4 o4 H4 e5 m5 k5 s5 H5 p0 p1 p2 p3 p4 d4 HH M2 B4 B5 z2
      go_wp2_with (at_builtin; refine wpList_joinP _ rfl _ _ rfl w.heap.size (by rw [← unhide E4, ← unhide E5]; exact (unhide BB5).size) _ M rfl (by rw [← unhide E4, ← unhide E5]; exact unhide HH5) w3.heap.size ⟨⟨fr, to, du, se, ds⟩, a3, c3⟩ rfl (by rw [← unhide E4, ← unhide E5]; exact unhide P5) (by rw [← unhide E4, ← unhide E5]; exact unhide O5) (unhide AP) hN2 ?_)
      intro v6 w6 o6 k6 _
      rw [← unhide E4, ← unhide E5] at k6
      have O6 := hide o6; have K6 := hide ((unhide BB5).trans k6)
      clear o6 k6 q0 q1 q2 q3 q4
      go_wp2_with fail
      go_roundw
      case rel => exact ⟨i + 1, M ++ [⟨⟨fr, to, du, se, ds⟩, a3, c3⟩], by omega, by go_num, by rw [unhide TK, List.map_append, unhide HM]; rfl, unhide O6, unhide K6⟩
      case measure => simp [intOf] <;> omega
    · have e9 : i = L.length := by omega
      subst e9
      have O9 := hide hO; have B9 := hide hB; have M9 := hide (show M.map Lp.p = L.map Lp.p by rw [hM, List.take_length])
      clear hO hB hM
      go_wp2_with fail
      go_ret
      exact ⟨va, vc, M, rfl, unhide M9, unhide O9, unhide B9⟩

end Go.Proofs.Ythjeedlhlkggkab
