/- Contracts of package agree: what is told on. (Written by tools/gen_agr7.py.) -/
import Derived.Test.YtomlpcbccfmejaaAgrRows
import Derived.Test.YtomlpcbccfmejaaRefAgr2
namespace Go.Proofs.Ytomlpcbccfmejaa
open Go.RowKit

theorem enter_next (v u x : Value) (w : World) : (callFunc 20 #[v, u, x]).run Try.prog w = .ok (.enter 20 #[v, u, x]) w := by go_simp
/-- Four numbers and twice four rows that are new. -/
theorem on_start (w : World) (H : Nat → Int) : ∃ w3, w3 = ((w.alloc (.cells #[.int .i64 (H 0), .int .i64 (H 1), .int .i64 (H 2), .int .i64 (H 3)] 27)).alloc (.cells #[.slice none 0 0, .slice none 0 0, .slice none 0 0, .slice none 0 0] 37)).alloc (.cells #[.slice none 0 0, .slice none 0 0, .slice none 0 0, .slice none 0 0] 37) ∧
    F4 w3 w.heap.size H ∧ R4 w3 (w.heap.size + 1) (fun _ => .slice none 0 0) ∧ R4 w3 (w.heap.size + 1 + 1) (fun _ => .slice none 0 0) ∧ Below w.heap.size w w3 ∧ w3.heap.size = w.heap.size + 1 + 1 + 1 := by
  obtain ⟨w1, e1, m1, k1, z1⟩ := f4_alloc w H
  rw [← e1]
  have k2 := al_below w1 (.cells #[.slice none 0 0, .slice none 0 0, .slice none 0 0, .slice none 0 0] 37)
  have m2 := R4.new w1 (fun _ => .slice none 0 0)
  have z2 := al_size w1 (.cells #[.slice none 0 0, .slice none 0 0, .slice none 0 0, .slice none 0 0] 37)
  generalize w1.alloc (.cells #[.slice none 0 0, .slice none 0 0, .slice none 0 0, .slice none 0 0] 37) = w2 at *
  have k3 := al_below w2 (.cells #[.slice none 0 0, .slice none 0 0, .slice none 0 0, .slice none 0 0] 37)
  have m3 := R4.new w2 (fun _ => .slice none 0 0)
  have z3 := al_size w2 (.cells #[.slice none 0 0, .slice none 0 0, .slice none 0 0, .slice none 0 0] 37)
  rw [z1] at m2
  rw [z2, z1] at m3
  exact ⟨_, rfl, (m1.below k2).below k3, m2.below k3, m3, (k1.trans (k2.mono (by omega))).trans (k3.mono (by omega)), by omega⟩

set_option maxRecDepth 100000 in
set_option maxHeartbeats 4000000 in
theorem tellOn_any (b : Nat) (bad : Int) (s ln : Nat) (v g H : Nat → Int) (w0 w : World) (hs4 : s < 4) (hj : TJ w0 g ln bad b (cB bad s) w) (hk : Below w0.heap.size w0 w) (hb : w0.heap.size ≤ b) (hH : ∀ r, r < 4 → r ≠ s → H r = hdF v bad (liF g ln) s r) :
    Calls Try.prog 18 #[.pointer (some ⟨b, 0, none⟩), .int .i64 (s : Nat), fourV H] w fun e w' => ∃ (A : Nat → Option Addr) (N C : Nat → Nat), e = .returned (rowsV (slF A N C)) ∧ (∀ q, q < 4 → q ≠ s → ∃ x, A q = some ⟨x, 0, none⟩ ∧ N q = 2 ∧ w.heap.size ≤ x ∧ Vh 3 w' x 2 (C q) (iF (gO v bad (liF g ln) s q))) ∧ TJ w0 g ln bad b (bsN bad (s + 1)) w' ∧ Kept b w w' := by
  obtain ⟨w3, e3, m1, m2, m3, k3, z3⟩ := on_start w H
  have hbw := hj.lt
  have J3 := hide (show OA w0 w g ln bad b H (gO v bad (liF g ln) s) (nn s 0 0) (cB bad s) (fun _ => none) (fun _ => 0) w3 from by
    have es : ∀ j, slF (fun _ => none) (nn s 0 0) (fun _ => 0) j = .slice none 0 0 := fun j => by unfold slF; rw [nn_zero]
    refine ⟨m1, m2, m3.congr (fun j _ => (es j).symm), fun j _ => ?_, fun i j _ _ _ k h1 _ => ?_, hj.below k3, Kept.of_below k3, by omega⟩
    · rw [es, nn_zero]; exact World.ownsRow_nil _ _ _ _
    · rw [es] at h1; cases h1)
  have HK := hide hk; have HH := hide hH; have E3 := hide e3
  have hfour : fourV H = .agg #[.int .i64 (H 0), .int .i64 (H 1), .int .i64 (H 2), .int .i64 (H 3)] := rfl
  rw [hfour]
  clear m1 m2 m3 k3 z3 hj hk hH e3 hfour
  go_enter Try.func18, Try.ntmps18
  go_wp2_with fail
  rw [← unhide E3]
  go_loopw [11] (fun rs wx => ∃ (r c : Nat) (A : Nat → Option Addr) (C : Nat → Nat), rs = .int .i64 r ∧ r ≤ 4 ∧ OA w0 w g ln bad b H (gO v bad (liF g ln) s) (nn s r 0) c A C wx ∧ c = cB bad s + ctN bad s r 0) (fun rs _ => 4 - (intOf rs).toNat)
  case atStart => exact ⟨0, _, _, _, rfl, by omega, unhide J3, by rw [ct_zero]; rfl⟩
  case round =>
    obtain ⟨r, c9, A9, C9, rfl, hr4', hJ, ec⟩ := hrel
    rename World => wf
    have RJ := hide hJ; have EC := hide ec
    clear hJ ec J3
    by_cases hr4 : r < 4
    · have hr4i : (r : Int) < 4 := by omega
      go_wp2_with fail
      go_loopw [14] (fun qs wx => ∃ (q c : Nat) (A : Nat → Option Addr) (C : Nat → Nat), qs = .int .i64 q ∧ q ≤ 4 ∧ OA w0 w g ln bad b H (gO v bad (liF g ln) s) (nn s r q) c A C wx ∧ c = cB bad s + ctN bad s r q) (fun qs _ => 4 - (intOf qs).toNat)
      case atStart => exact ⟨0, _, _, _, rfl, by omega, unhide RJ, unhide EC⟩
      case round =>
        obtain ⟨q, c, A, C, rfl, hq4', hJ, ec⟩ := hrel
        rename World => wz
        have ZJ := hide hJ; have EC := hide ec
        clear hJ ec RJ
        by_cases hq4 : q < 4
        · have hq4i : (q : Int) < 4 := by omega
          by_cases hrs : r = s
          · have trs : (((r : Nat) : Int) != ((s : Nat) : Int)) = false := by simp [hrs]
            have F := hide ((unhide EC).trans (show cB bad s + ctN bad s r q = cB bad s + ctN bad s r (q + 1) by rw [ct_skip (Or.inl hrs)]))
            have G := hide ((unhide ZJ).congr (fun j _ => (nn_skip hs4 hq4 (Or.inl hrs) j).symm))
            clear hrs ZJ
            go_wp2_with fail
            go_roundw
            case rel => exact ⟨q + 1, c, A, C, by go_num, by omega, unhide G, unhide F⟩
            case measure => simp [intOf] <;> omega
          · have trs : (((r : Nat) : Int) != ((s : Nat) : Int)) = true := by simp; omega
            by_cases hqs : q = s
            · have tqs : (((q : Nat) : Int) != ((s : Nat) : Int)) = false := by simp [hqs]
              have F := hide ((unhide EC).trans (show cB bad s + ctN bad s r q = cB bad s + ctN bad s r (q + 1) by rw [ct_skip (Or.inr (Or.inl hqs))]))
              have G := hide ((unhide ZJ).congr (fun j _ => (nn_skip hs4 hq4 (Or.inr (Or.inl hqs)) j).symm))
              clear hqs ZJ
              go_wp2_with fail
              go_roundw
              case rel => exact ⟨q + 1, c, A, C, by go_num, by omega, unhide G, unhide F⟩
              case measure => simp [intOf] <;> omega
            · have tqs : (((q : Nat) : Int) != ((s : Nat) : Int)) = true := by simp; omega
              by_cases hqr : q = r
              · have tqr : (((q : Nat) : Int) != ((r : Nat) : Int)) = false := by simp [hqr]
                have F := hide ((unhide EC).trans (show cB bad s + ctN bad s r q = cB bad s + ctN bad s r (q + 1) by rw [ct_skip (Or.inr (Or.inr (Or.inl hqr)))]))
                have G := hide ((unhide ZJ).congr (fun j _ => (nn_skip hs4 hq4 (Or.inr (Or.inr hqr)) j).symm))
                clear hqr ZJ
                go_wp2_with fail
                go_roundw
                case rel => exact ⟨q + 1, c, A, C, by go_num, by omega, unhide G, unhide F⟩
                case measure => simp [intOf] <;> omega
              · have tqr : (((q : Nat) : Int) != ((r : Nat) : Int)) = true := by simp; omega
                have NP := hide (nn_put hs4 hq4 hr4 hqs hrs hqr)
                have F := hide (show (if (r : Int) = bad then c + 1 else c) = cB bad s + ctN bad s r (q + 1) by
                  by_cases hrb : (r : Int) = bad
                  · rw [if_pos hrb, ct_told hr4 hrs hqs hqr hrb, unhide EC]; omega
                  · rw [if_neg hrb, ct_skip (Or.inr (Or.inr (Or.inr hrb))), unhide EC])
                have GP := hide (show gO v bad (liF g ln) s q (nn s r q q) = (if (r : Int) = bad then liF g ln c else H r) by
                  rw [gO_put hs4 hq4 hr4 hqs hrs hqr]
                  unfold psF
                  by_cases hrb : (r : Int) = bad
                  · rw [if_pos hrb, if_pos hrb, unhide EC, ct_at hr4 hrs hrb]
                  · rw [if_neg hrb, if_neg hrb, unhide HH r hr4 hrs])
                obtain ⟨c', ec'⟩ : ∃ c', (if (r : Int) = bad then c + 1 else c) = c' := ⟨_, rfl⟩
                obtain ⟨y, ey⟩ : ∃ y, (if (r : Int) = bad then liF g ln c else H r) = y := ⟨_, rfl⟩
                rw [ec'] at F
                rw [ey] at GP
                have EC' := hide ec'; have EY := hide ey
                clear ec' ey
                go_wp2_with fail
                refine wp_leaves (fun a0 a' w' => (∃ (A2 : Nat → Option Addr) (C2 : Nat → Nat), OA w0 w g ln bad b H (gO v bad (liF g ln) s) (nn s r (q + 1)) c' A2 C2 w') ∧ ∃ x40 x41 : Value, a' = (((((((((((((a0.put (some 30) (.int .i64 (q : Nat))).put (some 31) (.int .i64 (q : Nat))).put (some 32) (.pointer (some ⟨w.heap.size + 1 + 1, q, none⟩))).put (some 33) (slF A (nn s r q) C q)).put (some 34) (.pointer (some ⟨b, 0, none⟩))).put (some 35) (.int .i64 (r : Nat))).put (some 36) (.int .i64 (r : Nat))).put (some 37) (.pointer (some ⟨w.heap.size, r, none⟩))).put (some 38) (.int .i64 (H r))).put (some 39) (.int .i64 y)).put (some 40) x40).put (some 41) x41).put (some 42) (.pointer (some ⟨w.heap.size + 1 + 1, q, none⟩)))) ?reg9 ?rest9
                case reg9 =>
                  intro A0 eA
                  have b0 : A0.eval (.tmp 0) = .pointer (some ⟨b, 0, none⟩) := by rw [eA]; rfl
                  have b5 : A0.eval (.tmp 5) = .pointer (some ⟨w.heap.size, 0, none⟩) := by rw [eA]; rfl
                  have b7 : A0.eval (.tmp 7) = .pointer (some ⟨w.heap.size + 1 + 1, 0, none⟩) := by rw [eA]; rfl
                  have b8 : A0.eval (.tmp 8) = .int .i64 (r : Nat) := by rw [eA]; rfl
                  have b9 : A0.eval (.tmp 9) = .int .i64 (q : Nat) := by rw [eA]; rfl
                  have hz : 46 ≤ A0.tmps.size := by rw [eA]; exact of_decide_eq_true rfl
                  clear eA
                  have j9 : OA w0 w g ln bad b H (gO v bad (liF g ln) s) (nn s r q) c A C wz.drew := (unhide ZJ).below (below_drew (Below.refl _ _))
                  have hS : (fun u : World => u.cell? ⟨w.heap.size + 1 + 1, q, none⟩ = some (.slice (A q) (nn s r q q) (C q)) ∧ u.cell? ⟨w.heap.size, r, none⟩ = some (.int .i64 (H r))) wz.drew := ⟨j9.s.cell hq4, j9.h.cell hr4⟩
                  refine region_I (S := fun u : World => u.cell? ⟨w.heap.size + 1 + 1, q, none⟩ = some (.slice (A q) (nn s r q q) (C q)) ∧ u.cell? ⟨w.heap.size, r, none⟩ = some (.int .i64 (H r))) (.rd 0 (.rd 1 (.rd 2 (.rd 3 (.rd 4 (.rd 5 (.rd 6 (.rd 7 (.rd 8 (.go 9 (.go 10 (.go 11 (.rd 12 (.go 13 .fin)))))))))))))) [13] (by kernel_rfl) (by kernel_rfl) ?_
                  refine sI_read (v := (.int .i64 (q : Nat))) rfl (fun _ _ _ h => absurd h.1 (fun e => nomatch e)) (wanted_rd rfl) hS (fun wx _ => run_move (.tmp 9) rfl b9 wx) ?_
                  show SeqI _ _ _ _ _ _ (Act.put _ (some 30) _) _
                  refine sI_read (v := (.int .i64 (q : Nat))) rfl (fun _ _ _ h => absurd h.1 (fun e => nomatch e)) (wanted_rd rfl) hS (fun wx _ => run_move (.tmp 9) rfl ((ev_other _ _ (by decide)).trans b9) wx) ?_
                  show SeqI _ _ _ _ _ _ (Act.put _ (some 31) _) _
                  refine sI_read (v := (.pointer (some ⟨w.heap.size + 1 + 1, q, none⟩))) rfl (fun _ _ _ h => absurd h.1 (fun e => nomatch e)) (wanted_rd rfl) hS (fun wx _ => run_atR (.tmp 7) (.tmp 31) rfl ((ev_other _ _ (by decide)).trans ((ev_other _ _ (by decide)).trans b7)) (ev_same _ _ _ (by simp only [sz_put]; omega)) hq4 wx) ?_
                  show SeqI _ _ _ _ _ _ (Act.put _ (some 32) _) _
                  refine sI_read (v := (slF A (nn s r q) C q)) rfl (fun _ _ _ h => absurd h.1 (fun e => nomatch e)) (wanted_rd rfl) hS (fun wx hx => run_ldS (.tmp 32) rfl (ev_same _ _ _ (by simp only [sz_put]; omega)) hx.1) ?_
                  show SeqI _ _ _ _ _ _ (Act.put _ (some 33) _) _
                  refine sI_read (v := (.pointer (some ⟨b, 0, none⟩))) rfl (fun _ _ _ h => absurd h.1 (fun e => nomatch e)) (wanted_rd rfl) hS (fun wx _ => run_move (.tmp 0) rfl ((ev_other _ _ (by decide)).trans ((ev_other _ _ (by decide)).trans ((ev_other _ _ (by decide)).trans ((ev_other _ _ (by decide)).trans b0)))) wx) ?_
                  show SeqI _ _ _ _ _ _ (Act.put _ (some 34) _) _
                  refine sI_read (v := (.int .i64 (r : Nat))) rfl (fun _ _ _ h => absurd h.1 (fun e => nomatch e)) (wanted_rd rfl) hS (fun wx _ => run_move (.tmp 8) rfl ((ev_other _ _ (by decide)).trans ((ev_other _ _ (by decide)).trans ((ev_other _ _ (by decide)).trans ((ev_other _ _ (by decide)).trans ((ev_other _ _ (by decide)).trans b8))))) wx) ?_
                  show SeqI _ _ _ _ _ _ (Act.put _ (some 35) _) _
                  refine sI_read (v := (.int .i64 (r : Nat))) rfl (fun _ _ _ h => absurd h.1 (fun e => nomatch e)) (wanted_rd rfl) hS (fun wx _ => run_move (.tmp 8) rfl ((ev_other _ _ (by decide)).trans ((ev_other _ _ (by decide)).trans ((ev_other _ _ (by decide)).trans ((ev_other _ _ (by decide)).trans ((ev_other _ _ (by decide)).trans ((ev_other _ _ (by decide)).trans b8)))))) wx) ?_
                  show SeqI _ _ _ _ _ _ (Act.put _ (some 36) _) _
                  refine sI_read (v := (.pointer (some ⟨w.heap.size, r, none⟩))) rfl (fun _ _ _ h => absurd h.1 (fun e => nomatch e)) (wanted_rd rfl) hS (fun wx _ => run_at4z (.tmp 5) (.tmp 36) rfl ((ev_other _ _ (by decide)).trans ((ev_other _ _ (by decide)).trans ((ev_other _ _ (by decide)).trans ((ev_other _ _ (by decide)).trans ((ev_other _ _ (by decide)).trans ((ev_other _ _ (by decide)).trans ((ev_other _ _ (by decide)).trans b5))))))) (ev_same _ _ _ (by simp only [sz_put]; omega)) hr4 wx) ?_
                  show SeqI _ _ _ _ _ _ (Act.put _ (some 37) _) _
                  refine sI_read (v := (.int .i64 (H r))) rfl (fun _ _ _ h => absurd h.1 (fun e => nomatch e)) (wanted_rd rfl) hS (fun wx hx => run_ldI (.tmp 37) rfl (ev_same _ _ _ (by simp only [sz_put]; omega)) hx.2) ?_
                  show SeqI _ _ _ _ _ _ (Act.put _ (some 38) _) _
                  refine sI_do rfl (wanted_rd rfl) (fun K hK => ?_)
                  refine wp_call3 _ 20 (.tmp 34) (.tmp 35) (.tmp 38) _ rfl ((ev_other _ _ (by decide)).trans ((ev_other _ _ (by decide)).trans ((ev_other _ _ (by decide)).trans ((ev_other _ _ (by decide)).trans (ev_same _ _ _ (by simp only [sz_put]; omega)))))) ((ev_other _ _ (by decide)).trans ((ev_other _ _ (by decide)).trans ((ev_other _ _ (by decide)).trans (ev_same _ _ _ (by simp only [sz_put]; omega))))) (ev_same _ _ _ (by simp only [sz_put]; omega)) (enter_next _ _ _ _) (tellNext_any b bad c ln g w0 _ (r : Nat) (H r) j9.t (below_of_kept (unhide HK) j9.k hb (unhide HK).size)) ?_
                  rw [unhide EC', unhide EY]
                  rintro e wq ⟨rfl, t8, k8⟩
                  have j8 := j9.told hbw k8 t8
                  refine ⟨_, rfl, hK _ _ (fun _ => ⟨j8.s.cell hq4, j8.h.cell hr4⟩) ?_⟩
                  clear hK K hS
                  show SeqI _ _ _ _ _ _ (Act.put _ (some 39) _) _
                  refine sI_do rfl (wanted_rd rfl) (fun K hK => ?_)
                  refine wp_oneI _ (.tmp 39) rfl (ev_same _ _ _ (by simp only [sz_put]; omega)) ?_
                  have m7 := Vh.new wq 3 #[.int .i64 y] (fun _ => .int .i64 y) (by show 1 ≤ maxLen; decide) (fun i hi => by
                    have : i = 0 := by simp at hi; omega
                    subst this; rfl)
                  have j7 := j8.below (al_below wq (.cells #[.int .i64 y] 3))
                  refine hK _ _ (fun _ => ⟨j7.s.cell hq4, j7.h.cell hr4⟩) ?_
                  clear hK K
                  obtain ⟨w7, e7⟩ : ∃ w7, wq.alloc (.cells #[.int .i64 y] 3) = w7 := ⟨_, rfl⟩
                  rw [e7] at m7 j7 ⊢
                  clear e7
                  show SeqI _ _ _ _ _ _ (Act.put _ (some 40) _) _
                  refine sI_do rfl (wanted_rd rfl) (fun K hK => ?_)
                  refine wp_joinV _ (.tmp 33) (.tmp 40) rfl (w.heap.size + 1 + 1 + 1) j7.n (A q) (nn s r q q) (C q) (iF (gO v bad (liF g ln) s q)) ((ev_other _ _ (by decide)).trans ((ev_other _ _ (by decide)).trans ((ev_other _ _ (by decide)).trans ((ev_other _ _ (by decide)).trans ((ev_other _ _ (by decide)).trans ((ev_other _ _ (by decide)).trans ((ev_other _ _ (by decide)).trans (ev_same _ _ _ (by simp only [sz_put]; omega))))))))) (j7.o q hq4) wq.heap.size 1 1 (fun _ => .int .i64 y) (ev_same _ _ _ (by simp only [sz_put]; omega)) m7.rd (fun _ _ => rfl) (Nat.le_refl _) (by have := nn_le s r q q; omega) ?_
                  intro ao' c6 w6 o6 g6 f6 l6
                  have j6 := j7.join hbw hq4 o6 g6 f6 l6 (by unfold iF; rw [unhide GP])
                  have s6 : R4 w6 (w.heap.size + 1 + 1) (slF A (nn s r q) C) := j7.s.same (l6.block _ (by omega))
                  have h6 : F4 w6 w.heap.size H := j7.h.under l6 (by omega)
                  refine hK _ _ (fun _ => ⟨s6.cell hq4, h6.cell hr4⟩) ?_
                  clear hK K
                  show SeqI _ _ _ _ _ _ (Act.put _ (some 41) _) _
                  refine sI_read (v := (.pointer (some ⟨w.heap.size + 1 + 1, q, none⟩))) rfl (fun _ _ _ h => absurd h.1 (fun e => nomatch e)) (wanted_rd rfl) ⟨s6.cell hq4, h6.cell hr4⟩ (fun wx _ => run_atR (.tmp 7) (.tmp 30) rfl ((ev_other _ _ (by decide)).trans ((ev_other _ _ (by decide)).trans ((ev_other _ _ (by decide)).trans ((ev_other _ _ (by decide)).trans ((ev_other _ _ (by decide)).trans ((ev_other _ _ (by decide)).trans ((ev_other _ _ (by decide)).trans ((ev_other _ _ (by decide)).trans ((ev_other _ _ (by decide)).trans ((ev_other _ _ (by decide)).trans ((ev_other _ _ (by decide)).trans ((ev_other _ _ (by decide)).trans b7)))))))))))) ((ev_other _ _ (by decide)).trans ((ev_other _ _ (by decide)).trans ((ev_other _ _ (by decide)).trans ((ev_other _ _ (by decide)).trans ((ev_other _ _ (by decide)).trans ((ev_other _ _ (by decide)).trans ((ev_other _ _ (by decide)).trans ((ev_other _ _ (by decide)).trans ((ev_other _ _ (by decide)).trans ((ev_other _ _ (by decide)).trans ((ev_other _ _ (by decide)).trans (ev_same _ _ _ (by omega))))))))))))) hq4 wx) ?_
                  show SeqI _ _ _ _ _ _ (Act.put _ (some 42) _) _
                  refine sI_do rfl (wanted_rd rfl) (fun K hK => ?_)
                  refine wp_stS _ (.tmp 42) (.tmp 41) rfl (ev_same _ _ _ (by simp only [sz_put]; omega)) ((ev_other _ _ (by decide)).trans (ev_same _ _ _ (by simp only [sz_put]; omega))) (s6.cell hq4) (s6.free q) rfl ?_
                  refine hK _ _ (fun h => absurd h (by decide)) ?_
                  clear hK K
                  refine sI_end ?_
                  refine ⟨rfl, ⟨_, _, j6.congr (fun j _ => ?_)⟩, _, _, rfl⟩
                  by_cases e : j = q
                  · subst e; rw [upN_same, unhide NP]
                  · rw [upN_other _ _ e, nn_other e]
                case rest9 =>
                  rintro a' w5 ⟨⟨A5, C5, j5⟩, x40, x41, rfl⟩
                  have J5 := hide j5
                  clear j5 ZJ
                  go_frame
                  go_wp2_with fail
                  go_roundw
                  case rel => exact ⟨q + 1, c', A5, C5, by go_num, by omega, unhide J5, unhide F⟩
                  case measure => simp [intOf] <;> omega
        · have e9 : q = 4 := by omega
          subst e9
          rw [show ((4 : Nat) : Int) = 4 from rfl]
          have F := hide ((unhide EC).trans (show cB bad s + ctN bad s r 4 = cB bad s + ctN bad s (r + 1) 0 by rw [ct_row hs4 hr4]))
          have G := hide ((unhide ZJ).congr (fun j hj => nn_row s r hj))
          clear ZJ
          go_wp2_with fail
          go_roundw
          case rel => exact ⟨r + 1, c, A, C, by go_num, by omega, unhide G, unhide F⟩
          case measure => simp [intOf] <;> omega
    · have e9 : r = 4 := by omega
      subst e9
      rw [show ((4 : Nat) : Int) = 4 from rfl]
      have EN := hide ((unhide EC).trans (ct_end hs4))
      clear EC
      go_wp2_with (first | refine wpList_loadR _ rfl (.tmp 7) rfl rfl (unhide RJ).s ?_ | (refine wpList_storeR _ rfl (.tmp 6) (.tmp 45) rfl rfl rfl (unhide RJ).z rfl ?_; intro w5 m5 k5))
      have p0 := m5.cell (show 0 < 4 by omega); have p1 := m5.cell (show 1 < 4 by omega); have p2 := m5.cell (show 2 < 4 by omega); have p3 := m5.cell (show 3 < 4 by omega)
      unfold slF at p0 p1 p2 p3
      refine bodyPost_ret (v := rowsV (slF A9 (nn s 4 0) C9)) (by unfold rowsV slF; simp [results, Try.results18, go_sem, p0, p1, p2, p3]) rfl ⟨A9, nn s 4 0, C9, rfl, fun q hq hn => ?_, ?_, (unhide RJ).k.trans k5 (Or.inr (by omega))⟩
      · have o9 := (unhide RJ).o q hq
        have e2 := nn_end hs4 hq hn
        unfold slF at o9
        rw [e2] at o9
        obtain ⟨x, cap, ex, hx, vh⟩ := Vh.of_owns (by omega) o9
        injection ex with ea _ ec
        rw [ec]
        exact ⟨x, ea, e2, by omega, vh.kept k5 (by omega)⟩
      · rw [← unhide EN]
        exact (unhide RJ).t.kept k5 (by omega)

end Go.Proofs.Ytomlpcbccfmejaa
