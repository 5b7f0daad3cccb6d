/- The walk of MemberSteps, whatever Step is made of. (Written by tools/gen_memlaws.py.) -/
import Derived.Test.YtbgdjldmplkecaaLawsR1
import Derived.Test.YtbgdjldmplkecaaRefStp
import Derived.Test.YtbgdjldmplkecaaVotOps
import Derived.Test.YtbgdjldmplkecaaOpenMem
import Derived.Test.YtbgdjldmplkecaaMemOps
namespace Go.Proofs.Ytbgdjldmplkecaa
open Go.RowKit


theorem enter_step (v u : Value) (w : World) : (callFunc 14 #[v, u]).run Try.prog w = .ok (.enter 14 #[v, u]) w := by go_simp
theorem ms_start (w : World) (r : Rl) (X : Int) (st : Bool) (s : Value) : ∃ w3, w3 = ((w.alloc (.cells #[.bool (r.I 0), .bool (r.I 1), .bool (r.I 2), .bool (r.I 3), .int .i64 (r.M 0), .int .i64 (r.M 1), .int .i64 (r.M 2), .int .i64 (r.M 3), .int .i64 (r.J 0), .int .i64 (r.J 1), .int .i64 (r.J 2), .int .i64 (r.J 3)] 25)).alloc (.cells #[.int .i64 X, .bool st, s] 31)).alloc (.cells #[.int .i64 X, .bool st, s] 31) ∧
    RAt w3 w.heap.size r ∧ VdAt w3 (w.heap.size + 1) X st s ∧ VdAt w3 (w.heap.size + 1 + 1) X st s ∧ Below w.heap.size w w3 ∧ w3.heap.size = w.heap.size + 1 + 1 + 1 := by
  obtain ⟨w1, e1, m1, k1, z1⟩ := r_alloc w r
  obtain ⟨w2, e2, m2, k2, z2⟩ := vd_alloc w1 X st s
  obtain ⟨w3, e3, m3, k3, z3⟩ := vd_alloc w2 X st s
  rw [← e1, ← e2]
  rw [z1] at m2
  rw [z2, z1] at m3
  exact ⟨w3, e3, (m1.below k2).below k3, m2.below k3, m3, (k1.trans (k2.mono (by omega))).trans (k3.mono (by omega)), by omega⟩

set_option maxRecDepth 100000 in
set_option maxHeartbeats 8000000 in
theorem memberSteps_by (hS : StOK 14) {w : World} (r : Rl) (X : Int) (st : Bool) (ao : Option Addr) (n cap : Nat) (A : Nat → Bool) (rr : ∀ i, i < 4 → R64 (r.M i) ∧ R64 (r.J i)) (rX : R64 X) (ar : ArgT w ao n cap A) :
    Calls Try.prog 4 #[rollV r, vdV X st (.slice ao n cap)] w fun e w' => e = .returned (.bool true) ∧ Below w.heap.size w w' := by
  have HS := hide hS; have RR := hide rr
  obtain ⟨w3, e3, m1, m2, m3, k3, z3⟩ := ms_start w r X st (.slice ao n cap)
  have AR := hide ar.1; have A3 := hide (ar.1.below k3); have hn := ar.2.1; have hc := ar.2.2
  have M1 := hide m1; have M2 := hide m2; have M3 := hide m3; have K3 := hide k3; have E3 := hide e3
  have c0 := m2.cell0; have c1 := m2.cell1; have c2 := m2.cell2
  rw [e3] at c0 c1 c2
  clear hS rr m1 m2 m3 k3 e3 ar
  unfold rollV vdV
  go_enter Try.func4, Try.ntmps4
  go_wp2_with (refine wpList_joinT _ rfl (.const (.slice none 0 0)) (.tmp 18) rfl (w.heap.size + 1 + 1 + 1) (by rw [← unhide E3, z3]; omega) (.slice none 0 0) 0 [] rfl (World.ownsRow_nil _ _ _ _) ao n cap (tF A) rfl (by rw [← unhide E3]; exact unhide A3) (fun i _ => tF_one A i) (by omega) ?_)
  intro v5 w5 o5 l5
  rw [← unhide E3] at l5
  clear c0 c1 c2
  have a2 := (unhide M2).under l5 (by omega); have a3 := (unhide M3).under l5 (by omega)
  have a1 := (unhide M1).under l5 (by omega)
  have kk := kept_set w5 (w.heap.size + 1 + 1) 2 v5
  obtain ⟨w6, e6, m6, _⟩ := a3.put2 v5
  rw [← e6] at kk
  have o6 := own_keptz o5 kk (by omega)
  obtain ⟨a5, cp5, rfl, s6, hc5⟩ := owns_sr o6
  have z5 : w.heap.size + 1 + 1 + 1 ≤ w5.heap.size := by have := l5.size; omega
  have j6 : Below w.heap.size w w6 := below_of_kept ((unhide K3).trans (l5.mono (by omega))) kk (by omega) (by omega)
  have z6 : w.heap.size + 1 + 1 + 1 ≤ w6.heap.size := Nat.le_trans z5 kk.size
  have J6 := hide j6; have S6 := hide s6; have N6 := hide (a1.kept kk (by omega)); have V6 := hide (a2.kept kk (by omega)); have U6 := hide m6
  have g2 := a3.cell2; have f2 := a3.free 2; have d0 := m6.cell0; have d1 := m6.cell1; have d2 := m6.cell2
  have ew6 := e6.symm
  clear a1 a2 a3 kk e6 m6 o5 o6 s6 j6 l5 M1 M2 M3 K3 E3 A3
  go_wp2_with (refine wpList_loadRl _ rfl (.tmp 2) rfl rfl (unhide N6) ?_)
  refine ((unhide HS) r X st a5 n cp5 A _ (unhide RR) rX hn hc5 (unhide S6)).mono ?_
  obtain ⟨R, L, kE, eR⟩ : ∃ R L kE, stR r st n A = (R, L, kE) := ⟨_, _, _, rfl⟩
  have lL : L.length ≤ 4 := by have := stR_len r st n A; rw [eR] at this; exact this
  rw [eR]
  rintro e w7 ⟨ax, cx, rfl, cR, k7⟩
  clear g2 f2 d0 d1 d2 ew6
  have j7 := (unhide J6).trans (k7.mono (unhide J6).size)
  have J7 := hide j7; have N7 := hide ((unhide N6).below k7); have V7 := hide ((unhide V6).below k7); have CX7 := hide (cR.weak (Nat.zero_le _))
  obtain ⟨ba, eba⟩ : ∃ ba, w7.heap.size = ba := ⟨_, rfl⟩
  have kA := al_below w7 (.cells #[.bool false, .bool false, .bool false, .bool false, .int .i64 0, .int .i64 0, .int .i64 0, .int .i64 0, .int .i64 0, .int .i64 0, .int .i64 0, .int .i64 0] 25)
  have mA := RAt.new w7 zeroR
  have zb : w.heap.size + 1 + 1 + 1 ≤ ba := by have := k7.size; omega
  rw [eba] at mA
  have MA := hide mA; have JA := hide (j7.trans (kA.mono j7.size)); have NA := hide ((unhide N7).below kA); have VA := hide ((unhide V7).below kA); have CA := hide ((unhide CX7).below kA)
  clear k7 cR j7 kA mA J6 N6 V6 U6 S6 N7 V7
  go_wp2_with (refine wpList_storeRl _ rfl (.tmp 6) (.tmp 25) rfl (by rw [← eba]; rfl) rfl (unhide MA) rfl ?_)
  intro w8 m8 k8
  have C8 := hide (ChRd.keep (unhide CX7) (unhide CA) k8 (Nat.le_of_eq eba))
  have J8 := hide (below_of_kept (unhide JA) k8 (by omega) (unhide JA).size); have N8 := hide ((unhide NA).kept k8 (by omega)); have v8 := (unhide VA).kept k8 (by omega); have M8 := hide m8
  have c0 := v8.cell0; have c1 := v8.cell1; have c2 := v8.cell2
  have lb := m8.lt
  clear m8 k8 v8 MA JA NA VA CA J7 CX7 eba
  go_wp2_with (refine wpList_loadRl _ rfl (.tmp 2) rfl rfl (unhide N8) ?_)
  refine (refStep_ok r X st ao n cap A _ (unhide RR) rX hn hc ((unhide AR).below (unhide J8))).mono ?_
  rw [eR]
  rintro e w10 ⟨ay, cy, rfl, cR, k10⟩
  clear c0 c1 c2 N8
  have j10 := (unhide J8).trans (k10.mono (unhide J8).size)
  have CY10 := hide (cR.weak (Nat.zero_le _)); have CX10 := hide ((unhide C8).below k10); have M10 := hide ((unhide M8).below k10)
  obtain ⟨bb, ebb⟩ : ∃ bb, w10.heap.size = bb := ⟨_, rfl⟩
  have kA := al_below w10 (.cells #[.bool false, .bool false, .bool false, .bool false, .int .i64 0, .int .i64 0, .int .i64 0, .int .i64 0, .int .i64 0, .int .i64 0, .int .i64 0, .int .i64 0] 25)
  have mA := RAt.new w10 zeroR
  have zc : w.heap.size + 1 + 1 + 1 ≤ bb := by have := k10.size; omega
  have zd : ba < bb := by have := k10.size; omega
  rw [ebb] at mA
  have MA := hide mA; have JA := hide (j10.trans (kA.mono j10.size)); have CXA := hide ((unhide CX10).below kA); have CYA := hide ((unhide CY10).below kA); have RAA := hide ((unhide M10).below kA)
  clear k10 cR j10 kA mA C8 M8 J8 lb
  go_wp2_with (refine wpList_storeRl _ rfl (.tmp 9) (.tmp 32) rfl (by rw [← ebb]; rfl) rfl (unhide MA) rfl ?_)
  intro w9 m9 k9
  have CX := hide (ChRd.keep (unhide CX10) (unhide CXA) k9 (Nat.le_of_eq ebb)); have CY := hide (ChRd.keep (unhide CY10) (unhide CYA) k9 (Nat.le_of_eq ebb))
  have K9 := hide (below_of_kept (unhide JA) k9 (by omega) (unhide JA).size); have RA := hide ((unhide RAA).kept k9 (by omega)); have RB := hide m9
  clear m9 k9 MA JA CXA CYA RAA CX10 CY10 M10 ebb
  go_wp2_with fail
  refine wp_leaves (fun a0 a' w' => ∃ (x37 x39 x41 : Value) (nb : Nat), (RAt w' nb beginR ∧ RAt w' ba R ∧ RAt w' bb R ∧ ChRd 0 w' ax L ∧ ChRd 0 w' ay L ∧ Below w.heap.size w w') ∧ a' = (((((((((((a0.put (some 12) (.pointer (some ⟨nb, 0, none⟩))).put (some 13) x41).put (some 14) (.int .i64 0)).put (some 35) x39).put (some 36) (rollV beginR)).put (some 37) x37).put (some 38) (vdV 0 false x37)).put (some 39) x39).put (some 40) (rollV beginR)).put (some 41) x41).put (some 42) (.int .i64 0))) ?reg5 ?rest5
  case reg5 =>
    intro A0 eA
    have hz : 79 ≤ A0.tmps.size := by rw [eA]; exact of_decide_eq_true rfl
    clear eA
    have RA0 : RAt w9.drew ba R := unhide RA
    have RB0 : RAt w9.drew bb R := unhide RB
    have CX0 : ChRd 0 w9.drew ax L := unhide CX
    have CY0 : ChRd 0 w9.drew ay L := unhide CY
    have j0 : Below w.heap.size w w9.drew := below_drew (unhide K9)
    refine region_I (S := fun _ => True) (.three 0 1 8 (.two 1 8 (.rd 2 (.two 3 8 (.rd 4 (.rd 5 (.rd 6 (.rd 7 (.go 8 (.go 9 (.rd 10 (.rd 11 .fin)))))))) (.go 3 (.rd 4 (.rd 5 (.rd 6 (.rd 7 (.go 9 (.rd 10 (.rd 11 .fin)))))))))) (.go 1 (.rd 2 (.go 3 (.rd 4 (.rd 5 (.rd 6 (.rd 7 (.go 9 (.rd 10 (.rd 11 .fin))))))))))) (.rd 2 (.two 0 8 (.two 3 8 (.rd 4 (.rd 5 (.rd 6 (.rd 7 (.go 8 (.go 9 (.rd 10 (.rd 11 .fin)))))))) (.go 3 (.rd 4 (.rd 5 (.rd 6 (.rd 7 (.go 9 (.rd 10 (.rd 11 .fin))))))))) (.go 0 (.go 3 (.rd 4 (.rd 5 (.rd 6 (.rd 7 (.go 9 (.rd 10 (.rd 11 .fin))))))))))) (.two 0 1 (.go 1 (.rd 2 (.go 3 (.rd 4 (.rd 5 (.rd 6 (.rd 7 (.go 9 (.rd 10 (.rd 11 .fin)))))))))) (.rd 2 (.go 0 (.go 3 (.rd 4 (.rd 5 (.rd 6 (.rd 7 (.go 9 (.rd 10 (.rd 11 .fin)))))))))))) [] (by kernel_rfl) (by kernel_rfl) ?_
    refine sI_three rfl rfl rfl (wanted_rd rfl) (wanted_rd rfl) (wanted_rd rfl) ?_ ?_ ?_
    · intro K hK
      refine wp_call0 _ 9 #[] rfl (enter_rbeg _) (refBegin_ok _) ?_
      rintro e w21 ⟨rfl, k21⟩
      have RA21 := RA0.below k21
      have RB21 := RB0.below k21
      have CX21 := CX0.below k21
      have CY21 := CY0.below k21
      have j21 : Below w.heap.size w w21 := j0.trans (k21.mono j0.size)
      refine ⟨_, rfl, hK _ _ (fun _ => trivial) ?_⟩
      clear hK K
      show SeqI _ _ _ _ _ _ (Act.put _ (some 36) _) _
      refine sI_two rfl rfl (wanted_rd rfl) (wanted_rd rfl) ?_ ?_
      · intro K hK
        refine wp_makeT4 _ rfl ?_
        intro w22 q22 k22
        have RA22 := RA21.below k22
        have RB22 := RB21.below k22
        have CX22 := CX21.below k22
        have CY22 := CY21.below k22
        have j22 : Below w.heap.size w w22 := j21.trans (k22.mono j21.size)
        refine hK _ _ (fun _ => trivial) ?_
        clear hK K
        show SeqI _ _ _ _ _ _ (Act.put _ (some 37) _) _
        refine sI_read (v := (vdV 0 false (.slice (some ⟨w21.heap.size, 0, none⟩) 4 4))) rfl (fun _ _ _ h => absurd h.1 (fun e => nomatch e)) (wanted_rd rfl) trivial (fun wx _ => run_buildV2 (.tmp 37) rfl (ev_same _ _ _ (by simp only [sz_put]; omega)) wx) ?_
        show SeqI _ _ _ _ _ _ (Act.put _ (some 38) _) _
        refine sI_two rfl rfl (wanted_rd rfl) (wanted_rd rfl) ?_ ?_
        · intro K hK
          refine wp_call2 _ 14 (.tmp 36) (.tmp 38) _ rfl ((ev_other _ _ (by decide)).trans ((ev_other _ _ (by decide)).trans (ev_same _ _ _ (by omega)))) (ev_same _ _ _ (by simp only [sz_put]; omega)) (enter_step _ _ _) ((unhide HS) beginR 0 false _ 4 4 (fun _ => false) _ (fun _ _ => ⟨R64_nought, R64_nought⟩) R64_nought (by omega) (by omega) q22) ?_
          rw [stR_weak gdA_begin]
          dsimp only
          rintro e w23 ⟨a23, c23, rfl, _, k23⟩
          have RA23 := RA22.below k23
          have RB23 := RB22.below k23
          have CX23 := CX22.below k23
          have CY23 := CY22.below k23
          have SR23 := q22.below k23
          have j23 : Below w.heap.size w w23 := j22.trans (k23.mono j22.size)
          refine ⟨_, rfl, hK _ _ (fun _ => trivial) ?_⟩
          clear hK K
          show SeqI _ _ _ _ _ _ (Act.put _ (some 39) _) _
          refine sI_read (v := (.tuple #[rollV beginR, .slice a23 ([] : List (Int × Nat)).length c23, .int .i64 0])) rfl (fun _ _ _ h => absurd h.1 (fun e => nomatch e)) (wanted_rd rfl) trivial (fun wx _ => run_move (.tmp 39) rfl (ev_same _ _ _ (by simp only [sz_put]; omega)) wx) ?_
          show SeqI _ _ _ _ _ _ (Act.put _ (some 35) _) _
          refine sI_read (v := (rollV beginR)) rfl (fun _ _ _ h => absurd h.1 (fun e => nomatch e)) (wanted_rd rfl) trivial (fun wx _ => run_get (.tmp 35) 0 rfl (ev_same _ _ _ (by simp only [sz_put]; omega)) rfl wx) ?_
          show SeqI _ _ _ _ _ _ (Act.put _ (some 40) _) _
          refine sI_read (v := (.slice a23 ([] : List (Int × Nat)).length c23)) rfl (fun _ _ _ h => absurd h.1 (fun e => nomatch e)) (wanted_rd rfl) trivial (fun wx _ => run_get (.tmp 35) 1 rfl ((ev_other _ _ (by decide)).trans (ev_same _ _ _ (by simp only [sz_put]; omega))) rfl wx) ?_
          show SeqI _ _ _ _ _ _ (Act.put _ (some 41) _) _
          refine sI_read (v := (.int .i64 0)) rfl (fun _ _ _ h => absurd h.1 (fun e => nomatch e)) (wanted_rd rfl) trivial (fun wx _ => run_get (.tmp 35) 2 rfl ((ev_other _ _ (by decide)).trans ((ev_other _ _ (by decide)).trans (ev_same _ _ _ (by simp only [sz_put]; omega)))) rfl wx) ?_
          show SeqI _ _ _ _ _ _ (Act.put _ (some 42) _) _
          refine sI_do rfl (wanted_rd rfl) (fun K hK => ?_)
          refine wp_allocRl _ rfl ?_
          intro w24 z24 k24
          have RA24 := RA23.below k24
          have RB24 := RB23.below k24
          have CX24 := CX23.below k24
          have CY24 := CY23.below k24
          have SR24 := SR23.below k24
          have j24 : Below w.heap.size w w24 := j23.trans (k24.mono j23.size)
          refine hK _ _ (fun _ => trivial) ?_
          clear hK K
          show SeqI _ _ _ _ _ _ (Act.put _ (some 12) _) _
          refine sI_do rfl (wanted_rd rfl) (fun K hK => ?_)
          refine wp_storeRl _ (.tmp 12) (.tmp 40) rfl (ev_same _ _ _ (by simp only [sz_put]; omega)) ((ev_other _ _ (by decide)).trans ((ev_other _ _ (by decide)).trans ((ev_other _ _ (by decide)).trans (ev_same _ _ _ (by simp only [sz_put]; omega))))) z24 rfl ?_
          intro w25 m25 k25
          have jj : Below w.heap.size w w25 := below_of_kept j24 k25 j23.size j24.size
          refine hK _ _ (fun _ => trivial) ?_
          clear hK K
          refine sI_read (v := (.slice a23 ([] : List (Int × Nat)).length c23)) rfl (fun _ _ _ h => absurd h.1 (fun e => nomatch e)) (wanted_rd rfl) trivial (fun wx _ => run_assign (.tmp 41) rfl ((ev_other _ _ (by decide)).trans ((ev_other _ _ (by decide)).trans (ev_same _ _ _ (by simp only [sz_put]; omega)))) wx) ?_
          show SeqI _ _ _ _ _ _ (Act.put _ (some 13) _) _
          refine sI_read (v := (.int .i64 0)) rfl (fun _ _ _ h => absurd h.1 (fun e => nomatch e)) (wanted_rd rfl) trivial (fun wx _ => run_assign (.tmp 42) rfl ((ev_other _ _ (by decide)).trans ((ev_other _ _ (by decide)).trans (ev_same _ _ _ (by simp only [sz_put]; omega)))) wx) ?_
          show SeqI _ _ _ _ _ _ (Act.put _ (some 14) _) _
          refine sI_end ?_
          exact ⟨rfl, (.slice (some ⟨w21.heap.size, 0, none⟩) 4 4), (.tuple #[rollV beginR, .slice a23 ([] : List (Int × Nat)).length c23, .int .i64 0]), (.slice a23 ([] : List (Int × Nat)).length c23), w23.heap.size, ⟨m25, RA24.kept k25 (Nat.ne_of_lt RA23.lt), RB24.kept k25 (Nat.ne_of_lt RB23.lt), ChRd.keep CX23 CX24 k25 (Nat.le_refl _), ChRd.keep CY23 CY24 k25 (Nat.le_refl _), jj⟩, by rw [put_swap _ 39 35 _ _ (by decide), put_swap _ 42 12 _ _ (by decide), put_swap _ 42 13 _ _ (by decide), put_swap _ 42 14 _ _ (by decide), put_swap _ 38 35 _ _ (by decide), put_swap _ 41 12 _ _ (by decide), put_swap _ 41 13 _ _ (by decide), put_swap _ 41 14 _ _ (by decide), put_swap _ 37 35 _ _ (by decide), put_swap _ 40 12 _ _ (by decide), put_swap _ 40 13 _ _ (by decide), put_swap _ 40 14 _ _ (by decide), put_swap _ 36 35 _ _ (by decide), put_swap _ 39 12 _ _ (by decide), put_swap _ 39 13 _ _ (by decide), put_swap _ 39 14 _ _ (by decide), put_swap _ 38 12 _ _ (by decide), put_swap _ 38 13 _ _ (by decide), put_swap _ 38 14 _ _ (by decide), put_swap _ 37 12 _ _ (by decide), put_swap _ 37 13 _ _ (by decide), put_swap _ 37 14 _ _ (by decide), put_swap _ 36 12 _ _ (by decide), put_swap _ 36 13 _ _ (by decide), put_swap _ 36 14 _ _ (by decide), put_swap _ 35 12 _ _ (by decide), put_swap _ 35 13 _ _ (by decide), put_swap _ 35 14 _ _ (by decide)]⟩
        · intro K hK
          refine wp_allocRl _ rfl ?_
          intro w23 z23 k23
          have RA23 := RA22.below k23
          have RB23 := RB22.below k23
          have CX23 := CX22.below k23
          have CY23 := CY22.below k23
          have SR23 := q22.below k23
          have j23 : Below w.heap.size w w23 := j22.trans (k23.mono j22.size)
          refine hK _ _ (fun _ => trivial) ?_
          clear hK K
          show SeqI _ _ _ _ _ _ (Act.put _ (some 12) _) _
          refine sI_do rfl (wanted_rd rfl) (fun K hK => ?_)
          refine wp_call2 _ 14 (.tmp 36) (.tmp 38) _ rfl ((ev_other _ _ (by decide)).trans ((ev_other _ _ (by decide)).trans ((ev_other _ _ (by decide)).trans (ev_same _ _ _ (by omega))))) ((ev_other _ _ (by decide)).trans (ev_same _ _ _ (by simp only [sz_put]; omega))) (enter_step _ _ _) ((unhide HS) beginR 0 false _ 4 4 (fun _ => false) _ (fun _ _ => ⟨R64_nought, R64_nought⟩) R64_nought (by omega) (by omega) SR23) ?_
          rw [stR_weak gdA_begin]
          dsimp only
          rintro e w24 ⟨a24, c24, rfl, _, k24⟩
          have RA24 := RA23.below k24
          have RB24 := RB23.below k24
          have CX24 := CX23.below k24
          have CY24 := CY23.below k24
          have SR24 := SR23.below k24
          have RZ24 := z23.below k24
          have j24 : Below w.heap.size w w24 := j23.trans (k24.mono j23.size)
          refine ⟨_, rfl, hK _ _ (fun _ => trivial) ?_⟩
          clear hK K
          show SeqI _ _ _ _ _ _ (Act.put _ (some 39) _) _
          refine sI_read (v := (.tuple #[rollV beginR, .slice a24 ([] : List (Int × Nat)).length c24, .int .i64 0])) rfl (fun _ _ _ h => absurd h.1 (fun e => nomatch e)) (wanted_rd rfl) trivial (fun wx _ => run_move (.tmp 39) rfl (ev_same _ _ _ (by simp only [sz_put]; omega)) wx) ?_
          show SeqI _ _ _ _ _ _ (Act.put _ (some 35) _) _
          refine sI_read (v := (rollV beginR)) rfl (fun _ _ _ h => absurd h.1 (fun e => nomatch e)) (wanted_rd rfl) trivial (fun wx _ => run_get (.tmp 35) 0 rfl (ev_same _ _ _ (by simp only [sz_put]; omega)) rfl wx) ?_
          show SeqI _ _ _ _ _ _ (Act.put _ (some 40) _) _
          refine sI_read (v := (.slice a24 ([] : List (Int × Nat)).length c24)) rfl (fun _ _ _ h => absurd h.1 (fun e => nomatch e)) (wanted_rd rfl) trivial (fun wx _ => run_get (.tmp 35) 1 rfl ((ev_other _ _ (by decide)).trans (ev_same _ _ _ (by simp only [sz_put]; omega))) rfl wx) ?_
          show SeqI _ _ _ _ _ _ (Act.put _ (some 41) _) _
          refine sI_read (v := (.int .i64 0)) rfl (fun _ _ _ h => absurd h.1 (fun e => nomatch e)) (wanted_rd rfl) trivial (fun wx _ => run_get (.tmp 35) 2 rfl ((ev_other _ _ (by decide)).trans ((ev_other _ _ (by decide)).trans (ev_same _ _ _ (by simp only [sz_put]; omega)))) rfl wx) ?_
          show SeqI _ _ _ _ _ _ (Act.put _ (some 42) _) _
          refine sI_do rfl (wanted_rd rfl) (fun K hK => ?_)
          refine wp_storeRl _ (.tmp 12) (.tmp 40) rfl ((ev_other _ _ (by decide)).trans ((ev_other _ _ (by decide)).trans ((ev_other _ _ (by decide)).trans ((ev_other _ _ (by decide)).trans ((ev_other _ _ (by decide)).trans (ev_same _ _ _ (by simp only [sz_put]; omega))))))) ((ev_other _ _ (by decide)).trans ((ev_other _ _ (by decide)).trans (ev_same _ _ _ (by simp only [sz_put]; omega)))) RZ24 rfl ?_
          intro w25 m25 k25
          have jj : Below w.heap.size w w25 := below_of_kept j24 k25 j22.size j24.size
          refine hK _ _ (fun _ => trivial) ?_
          clear hK K
          refine sI_read (v := (.slice a24 ([] : List (Int × Nat)).length c24)) rfl (fun _ _ _ h => absurd h.1 (fun e => nomatch e)) (wanted_rd rfl) trivial (fun wx _ => run_assign (.tmp 41) rfl ((ev_other _ _ (by decide)).trans (ev_same _ _ _ (by simp only [sz_put]; omega))) wx) ?_
          show SeqI _ _ _ _ _ _ (Act.put _ (some 13) _) _
          refine sI_read (v := (.int .i64 0)) rfl (fun _ _ _ h => absurd h.1 (fun e => nomatch e)) (wanted_rd rfl) trivial (fun wx _ => run_assign (.tmp 42) rfl ((ev_other _ _ (by decide)).trans (ev_same _ _ _ (by simp only [sz_put]; omega))) wx) ?_
          show SeqI _ _ _ _ _ _ (Act.put _ (some 14) _) _
          refine sI_end ?_
          exact ⟨rfl, (.slice (some ⟨w21.heap.size, 0, none⟩) 4 4), (.tuple #[rollV beginR, .slice a24 ([] : List (Int × Nat)).length c24, .int .i64 0]), (.slice a24 ([] : List (Int × Nat)).length c24), w22.heap.size, ⟨m25, RA24.kept k25 (Nat.ne_of_lt RA22.lt), RB24.kept k25 (Nat.ne_of_lt RB22.lt), ChRd.keep CX22 CX24 k25 (Nat.le_refl _), ChRd.keep CY22 CY24 k25 (Nat.le_refl _), jj⟩, by rw [put_swap _ 38 12 _ _ (by decide), put_swap _ 39 35 _ _ (by decide), put_swap _ 42 13 _ _ (by decide), put_swap _ 42 14 _ _ (by decide), put_swap _ 37 12 _ _ (by decide), put_swap _ 38 35 _ _ (by decide), put_swap _ 41 13 _ _ (by decide), put_swap _ 41 14 _ _ (by decide), put_swap _ 36 12 _ _ (by decide), put_swap _ 37 35 _ _ (by decide), put_swap _ 40 13 _ _ (by decide), put_swap _ 40 14 _ _ (by decide), put_swap _ 36 35 _ _ (by decide), put_swap _ 39 13 _ _ (by decide), put_swap _ 39 14 _ _ (by decide), put_swap _ 38 13 _ _ (by decide), put_swap _ 38 14 _ _ (by decide), put_swap _ 37 13 _ _ (by decide), put_swap _ 37 14 _ _ (by decide), put_swap _ 36 13 _ _ (by decide), put_swap _ 36 14 _ _ (by decide), put_swap _ 35 13 _ _ (by decide), put_swap _ 35 14 _ _ (by decide)]⟩
      · intro K hK
        refine wp_allocRl _ rfl ?_
        intro w22 z22 k22
        have RA22 := RA21.below k22
        have RB22 := RB21.below k22
        have CX22 := CX21.below k22
        have CY22 := CY21.below k22
        have j22 : Below w.heap.size w w22 := j21.trans (k22.mono j21.size)
        refine hK _ _ (fun _ => trivial) ?_
        clear hK K
        show SeqI _ _ _ _ _ _ (Act.put _ (some 12) _) _
        refine sI_do rfl (wanted_rd rfl) (fun K hK => ?_)
        refine wp_makeT4 _ rfl ?_
        intro w23 q23 k23
        have RA23 := RA22.below k23
        have RB23 := RB22.below k23
        have CX23 := CX22.below k23
        have CY23 := CY22.below k23
        have RZ23 := z22.below k23
        have j23 : Below w.heap.size w w23 := j22.trans (k23.mono j22.size)
        refine hK _ _ (fun _ => trivial) ?_
        clear hK K
        show SeqI _ _ _ _ _ _ (Act.put _ (some 37) _) _
        refine sI_read (v := (vdV 0 false (.slice (some ⟨w22.heap.size, 0, none⟩) 4 4))) rfl (fun _ _ _ h => absurd h.1 (fun e => nomatch e)) (wanted_rd rfl) trivial (fun wx _ => run_buildV2 (.tmp 37) rfl (ev_same _ _ _ (by simp only [sz_put]; omega)) wx) ?_
        show SeqI _ _ _ _ _ _ (Act.put _ (some 38) _) _
        refine sI_do rfl (wanted_rd rfl) (fun K hK => ?_)
        refine wp_call2 _ 14 (.tmp 36) (.tmp 38) _ rfl ((ev_other _ _ (by decide)).trans ((ev_other _ _ (by decide)).trans ((ev_other _ _ (by decide)).trans (ev_same _ _ _ (by omega))))) (ev_same _ _ _ (by simp only [sz_put]; omega)) (enter_step _ _ _) ((unhide HS) beginR 0 false _ 4 4 (fun _ => false) _ (fun _ _ => ⟨R64_nought, R64_nought⟩) R64_nought (by omega) (by omega) q23) ?_
        rw [stR_weak gdA_begin]
        dsimp only
        rintro e w24 ⟨a24, c24, rfl, _, k24⟩
        have RA24 := RA23.below k24
        have RB24 := RB23.below k24
        have CX24 := CX23.below k24
        have CY24 := CY23.below k24
        have RZ24 := RZ23.below k24
        have SR24 := q23.below k24
        have j24 : Below w.heap.size w w24 := j23.trans (k24.mono j23.size)
        refine ⟨_, rfl, hK _ _ (fun _ => trivial) ?_⟩
        clear hK K
        show SeqI _ _ _ _ _ _ (Act.put _ (some 39) _) _
        refine sI_read (v := (.tuple #[rollV beginR, .slice a24 ([] : List (Int × Nat)).length c24, .int .i64 0])) rfl (fun _ _ _ h => absurd h.1 (fun e => nomatch e)) (wanted_rd rfl) trivial (fun wx _ => run_move (.tmp 39) rfl (ev_same _ _ _ (by simp only [sz_put]; omega)) wx) ?_
        show SeqI _ _ _ _ _ _ (Act.put _ (some 35) _) _
        refine sI_read (v := (rollV beginR)) rfl (fun _ _ _ h => absurd h.1 (fun e => nomatch e)) (wanted_rd rfl) trivial (fun wx _ => run_get (.tmp 35) 0 rfl (ev_same _ _ _ (by simp only [sz_put]; omega)) rfl wx) ?_
        show SeqI _ _ _ _ _ _ (Act.put _ (some 40) _) _
        refine sI_read (v := (.slice a24 ([] : List (Int × Nat)).length c24)) rfl (fun _ _ _ h => absurd h.1 (fun e => nomatch e)) (wanted_rd rfl) trivial (fun wx _ => run_get (.tmp 35) 1 rfl ((ev_other _ _ (by decide)).trans (ev_same _ _ _ (by simp only [sz_put]; omega))) rfl wx) ?_
        show SeqI _ _ _ _ _ _ (Act.put _ (some 41) _) _
        refine sI_read (v := (.int .i64 0)) rfl (fun _ _ _ h => absurd h.1 (fun e => nomatch e)) (wanted_rd rfl) trivial (fun wx _ => run_get (.tmp 35) 2 rfl ((ev_other _ _ (by decide)).trans ((ev_other _ _ (by decide)).trans (ev_same _ _ _ (by simp only [sz_put]; omega)))) rfl wx) ?_
        show SeqI _ _ _ _ _ _ (Act.put _ (some 42) _) _
        refine sI_do rfl (wanted_rd rfl) (fun K hK => ?_)
        refine wp_storeRl _ (.tmp 12) (.tmp 40) rfl ((ev_other _ _ (by decide)).trans ((ev_other _ _ (by decide)).trans ((ev_other _ _ (by decide)).trans ((ev_other _ _ (by decide)).trans ((ev_other _ _ (by decide)).trans ((ev_other _ _ (by decide)).trans ((ev_other _ _ (by decide)).trans (ev_same _ _ _ (by simp only [sz_put]; omega))))))))) ((ev_other _ _ (by decide)).trans ((ev_other _ _ (by decide)).trans (ev_same _ _ _ (by simp only [sz_put]; omega)))) RZ24 rfl ?_
        intro w25 m25 k25
        have jj : Below w.heap.size w w25 := below_of_kept j24 k25 j21.size j24.size
        refine hK _ _ (fun _ => trivial) ?_
        clear hK K
        refine sI_read (v := (.slice a24 ([] : List (Int × Nat)).length c24)) rfl (fun _ _ _ h => absurd h.1 (fun e => nomatch e)) (wanted_rd rfl) trivial (fun wx _ => run_assign (.tmp 41) rfl ((ev_other _ _ (by decide)).trans (ev_same _ _ _ (by simp only [sz_put]; omega))) wx) ?_
        show SeqI _ _ _ _ _ _ (Act.put _ (some 13) _) _
        refine sI_read (v := (.int .i64 0)) rfl (fun _ _ _ h => absurd h.1 (fun e => nomatch e)) (wanted_rd rfl) trivial (fun wx _ => run_assign (.tmp 42) rfl ((ev_other _ _ (by decide)).trans (ev_same _ _ _ (by simp only [sz_put]; omega))) wx) ?_
        show SeqI _ _ _ _ _ _ (Act.put _ (some 14) _) _
        refine sI_end ?_
        exact ⟨rfl, (.slice (some ⟨w22.heap.size, 0, none⟩) 4 4), (.tuple #[rollV beginR, .slice a24 ([] : List (Int × Nat)).length c24, .int .i64 0]), (.slice a24 ([] : List (Int × Nat)).length c24), w21.heap.size, ⟨m25, RA24.kept k25 (Nat.ne_of_lt RA21.lt), RB24.kept k25 (Nat.ne_of_lt RB21.lt), ChRd.keep CX21 CX24 k25 (Nat.le_refl _), ChRd.keep CY21 CY24 k25 (Nat.le_refl _), jj⟩, by rw [put_swap _ 36 12 _ _ (by decide), put_swap _ 39 35 _ _ (by decide), put_swap _ 42 13 _ _ (by decide), put_swap _ 42 14 _ _ (by decide), put_swap _ 38 35 _ _ (by decide), put_swap _ 41 13 _ _ (by decide), put_swap _ 41 14 _ _ (by decide), put_swap _ 37 35 _ _ (by decide), put_swap _ 40 13 _ _ (by decide), put_swap _ 40 14 _ _ (by decide), put_swap _ 36 35 _ _ (by decide), put_swap _ 39 13 _ _ (by decide), put_swap _ 39 14 _ _ (by decide), put_swap _ 38 13 _ _ (by decide), put_swap _ 38 14 _ _ (by decide), put_swap _ 37 13 _ _ (by decide), put_swap _ 37 14 _ _ (by decide), put_swap _ 36 13 _ _ (by decide), put_swap _ 36 14 _ _ (by decide), put_swap _ 35 13 _ _ (by decide), put_swap _ 35 14 _ _ (by decide)]⟩
    · intro K hK
      refine wp_makeT4 _ rfl ?_
      intro w21 q21 k21
      have RA21 := RA0.below k21
      have RB21 := RB0.below k21
      have CX21 := CX0.below k21
      have CY21 := CY0.below k21
      have j21 : Below w.heap.size w w21 := j0.trans (k21.mono j0.size)
      refine hK _ _ (fun _ => trivial) ?_
      clear hK K
      show SeqI _ _ _ _ _ _ (Act.put _ (some 37) _) _
      refine sI_read (v := (vdV 0 false (.slice (some ⟨w9.drew.heap.size, 0, none⟩) 4 4))) rfl (fun _ _ _ h => absurd h.1 (fun e => nomatch e)) (wanted_rd rfl) trivial (fun wx _ => run_buildV2 (.tmp 37) rfl (ev_same _ _ _ (by omega)) wx) ?_
      show SeqI _ _ _ _ _ _ (Act.put _ (some 38) _) _
      refine sI_two rfl rfl (wanted_rd rfl) (wanted_rd rfl) ?_ ?_
      · intro K hK
        refine wp_call0 _ 9 #[] rfl (enter_rbeg _) (refBegin_ok _) ?_
        rintro e w22 ⟨rfl, k22⟩
        have RA22 := RA21.below k22
        have RB22 := RB21.below k22
        have CX22 := CX21.below k22
        have CY22 := CY21.below k22
        have SR22 := q21.below k22
        have j22 : Below w.heap.size w w22 := j21.trans (k22.mono j21.size)
        refine ⟨_, rfl, hK _ _ (fun _ => trivial) ?_⟩
        clear hK K
        show SeqI _ _ _ _ _ _ (Act.put _ (some 36) _) _
        refine sI_two rfl rfl (wanted_rd rfl) (wanted_rd rfl) ?_ ?_
        · intro K hK
          refine wp_call2 _ 14 (.tmp 36) (.tmp 38) _ rfl (ev_same _ _ _ (by simp only [sz_put]; omega)) ((ev_other _ _ (by decide)).trans (ev_same _ _ _ (by simp only [sz_put]; omega))) (enter_step _ _ _) ((unhide HS) beginR 0 false _ 4 4 (fun _ => false) _ (fun _ _ => ⟨R64_nought, R64_nought⟩) R64_nought (by omega) (by omega) SR22) ?_
          rw [stR_weak gdA_begin]
          dsimp only
          rintro e w23 ⟨a23, c23, rfl, _, k23⟩
          have RA23 := RA22.below k23
          have RB23 := RB22.below k23
          have CX23 := CX22.below k23
          have CY23 := CY22.below k23
          have SR23 := SR22.below k23
          have j23 : Below w.heap.size w w23 := j22.trans (k23.mono j22.size)
          refine ⟨_, rfl, hK _ _ (fun _ => trivial) ?_⟩
          clear hK K
          show SeqI _ _ _ _ _ _ (Act.put _ (some 39) _) _
          refine sI_read (v := (.tuple #[rollV beginR, .slice a23 ([] : List (Int × Nat)).length c23, .int .i64 0])) rfl (fun _ _ _ h => absurd h.1 (fun e => nomatch e)) (wanted_rd rfl) trivial (fun wx _ => run_move (.tmp 39) rfl (ev_same _ _ _ (by simp only [sz_put]; omega)) wx) ?_
          show SeqI _ _ _ _ _ _ (Act.put _ (some 35) _) _
          refine sI_read (v := (rollV beginR)) rfl (fun _ _ _ h => absurd h.1 (fun e => nomatch e)) (wanted_rd rfl) trivial (fun wx _ => run_get (.tmp 35) 0 rfl (ev_same _ _ _ (by simp only [sz_put]; omega)) rfl wx) ?_
          show SeqI _ _ _ _ _ _ (Act.put _ (some 40) _) _
          refine sI_read (v := (.slice a23 ([] : List (Int × Nat)).length c23)) rfl (fun _ _ _ h => absurd h.1 (fun e => nomatch e)) (wanted_rd rfl) trivial (fun wx _ => run_get (.tmp 35) 1 rfl ((ev_other _ _ (by decide)).trans (ev_same _ _ _ (by simp only [sz_put]; omega))) rfl wx) ?_
          show SeqI _ _ _ _ _ _ (Act.put _ (some 41) _) _
          refine sI_read (v := (.int .i64 0)) rfl (fun _ _ _ h => absurd h.1 (fun e => nomatch e)) (wanted_rd rfl) trivial (fun wx _ => run_get (.tmp 35) 2 rfl ((ev_other _ _ (by decide)).trans ((ev_other _ _ (by decide)).trans (ev_same _ _ _ (by simp only [sz_put]; omega)))) rfl wx) ?_
          show SeqI _ _ _ _ _ _ (Act.put _ (some 42) _) _
          refine sI_do rfl (wanted_rd rfl) (fun K hK => ?_)
          refine wp_allocRl _ rfl ?_
          intro w24 z24 k24
          have RA24 := RA23.below k24
          have RB24 := RB23.below k24
          have CX24 := CX23.below k24
          have CY24 := CY23.below k24
          have SR24 := SR23.below k24
          have j24 : Below w.heap.size w w24 := j23.trans (k24.mono j23.size)
          refine hK _ _ (fun _ => trivial) ?_
          clear hK K
          show SeqI _ _ _ _ _ _ (Act.put _ (some 12) _) _
          refine sI_do rfl (wanted_rd rfl) (fun K hK => ?_)
          refine wp_storeRl _ (.tmp 12) (.tmp 40) rfl (ev_same _ _ _ (by simp only [sz_put]; omega)) ((ev_other _ _ (by decide)).trans ((ev_other _ _ (by decide)).trans ((ev_other _ _ (by decide)).trans (ev_same _ _ _ (by simp only [sz_put]; omega))))) z24 rfl ?_
          intro w25 m25 k25
          have jj : Below w.heap.size w w25 := below_of_kept j24 k25 j23.size j24.size
          refine hK _ _ (fun _ => trivial) ?_
          clear hK K
          refine sI_read (v := (.slice a23 ([] : List (Int × Nat)).length c23)) rfl (fun _ _ _ h => absurd h.1 (fun e => nomatch e)) (wanted_rd rfl) trivial (fun wx _ => run_assign (.tmp 41) rfl ((ev_other _ _ (by decide)).trans ((ev_other _ _ (by decide)).trans (ev_same _ _ _ (by simp only [sz_put]; omega)))) wx) ?_
          show SeqI _ _ _ _ _ _ (Act.put _ (some 13) _) _
          refine sI_read (v := (.int .i64 0)) rfl (fun _ _ _ h => absurd h.1 (fun e => nomatch e)) (wanted_rd rfl) trivial (fun wx _ => run_assign (.tmp 42) rfl ((ev_other _ _ (by decide)).trans ((ev_other _ _ (by decide)).trans (ev_same _ _ _ (by simp only [sz_put]; omega)))) wx) ?_
          show SeqI _ _ _ _ _ _ (Act.put _ (some 14) _) _
          refine sI_end ?_
          exact ⟨rfl, (.slice (some ⟨w9.drew.heap.size, 0, none⟩) 4 4), (.tuple #[rollV beginR, .slice a23 ([] : List (Int × Nat)).length c23, .int .i64 0]), (.slice a23 ([] : List (Int × Nat)).length c23), w23.heap.size, ⟨m25, RA24.kept k25 (Nat.ne_of_lt RA23.lt), RB24.kept k25 (Nat.ne_of_lt RB23.lt), ChRd.keep CX23 CX24 k25 (Nat.le_refl _), ChRd.keep CY23 CY24 k25 (Nat.le_refl _), jj⟩, by rw [put_swap _ 38 36 _ _ (by decide), put_swap _ 39 35 _ _ (by decide), put_swap _ 42 12 _ _ (by decide), put_swap _ 42 13 _ _ (by decide), put_swap _ 42 14 _ _ (by decide), put_swap _ 37 36 _ _ (by decide), put_swap _ 38 35 _ _ (by decide), put_swap _ 41 12 _ _ (by decide), put_swap _ 41 13 _ _ (by decide), put_swap _ 41 14 _ _ (by decide), put_swap _ 37 35 _ _ (by decide), put_swap _ 40 12 _ _ (by decide), put_swap _ 40 13 _ _ (by decide), put_swap _ 40 14 _ _ (by decide), put_swap _ 36 35 _ _ (by decide), put_swap _ 39 12 _ _ (by decide), put_swap _ 39 13 _ _ (by decide), put_swap _ 39 14 _ _ (by decide), put_swap _ 38 12 _ _ (by decide), put_swap _ 38 13 _ _ (by decide), put_swap _ 38 14 _ _ (by decide), put_swap _ 37 12 _ _ (by decide), put_swap _ 37 13 _ _ (by decide), put_swap _ 37 14 _ _ (by decide), put_swap _ 36 12 _ _ (by decide), put_swap _ 36 13 _ _ (by decide), put_swap _ 36 14 _ _ (by decide), put_swap _ 35 12 _ _ (by decide), put_swap _ 35 13 _ _ (by decide), put_swap _ 35 14 _ _ (by decide)]⟩
        · intro K hK
          refine wp_allocRl _ rfl ?_
          intro w23 z23 k23
          have RA23 := RA22.below k23
          have RB23 := RB22.below k23
          have CX23 := CX22.below k23
          have CY23 := CY22.below k23
          have SR23 := SR22.below k23
          have j23 : Below w.heap.size w w23 := j22.trans (k23.mono j22.size)
          refine hK _ _ (fun _ => trivial) ?_
          clear hK K
          show SeqI _ _ _ _ _ _ (Act.put _ (some 12) _) _
          refine sI_do rfl (wanted_rd rfl) (fun K hK => ?_)
          refine wp_call2 _ 14 (.tmp 36) (.tmp 38) _ rfl ((ev_other _ _ (by decide)).trans (ev_same _ _ _ (by simp only [sz_put]; omega))) ((ev_other _ _ (by decide)).trans ((ev_other _ _ (by decide)).trans (ev_same _ _ _ (by simp only [sz_put]; omega)))) (enter_step _ _ _) ((unhide HS) beginR 0 false _ 4 4 (fun _ => false) _ (fun _ _ => ⟨R64_nought, R64_nought⟩) R64_nought (by omega) (by omega) SR23) ?_
          rw [stR_weak gdA_begin]
          dsimp only
          rintro e w24 ⟨a24, c24, rfl, _, k24⟩
          have RA24 := RA23.below k24
          have RB24 := RB23.below k24
          have CX24 := CX23.below k24
          have CY24 := CY23.below k24
          have SR24 := SR23.below k24
          have RZ24 := z23.below k24
          have j24 : Below w.heap.size w w24 := j23.trans (k24.mono j23.size)
          refine ⟨_, rfl, hK _ _ (fun _ => trivial) ?_⟩
          clear hK K
          show SeqI _ _ _ _ _ _ (Act.put _ (some 39) _) _
          refine sI_read (v := (.tuple #[rollV beginR, .slice a24 ([] : List (Int × Nat)).length c24, .int .i64 0])) rfl (fun _ _ _ h => absurd h.1 (fun e => nomatch e)) (wanted_rd rfl) trivial (fun wx _ => run_move (.tmp 39) rfl (ev_same _ _ _ (by simp only [sz_put]; omega)) wx) ?_
          show SeqI _ _ _ _ _ _ (Act.put _ (some 35) _) _
          refine sI_read (v := (rollV beginR)) rfl (fun _ _ _ h => absurd h.1 (fun e => nomatch e)) (wanted_rd rfl) trivial (fun wx _ => run_get (.tmp 35) 0 rfl (ev_same _ _ _ (by simp only [sz_put]; omega)) rfl wx) ?_
          show SeqI _ _ _ _ _ _ (Act.put _ (some 40) _) _
          refine sI_read (v := (.slice a24 ([] : List (Int × Nat)).length c24)) rfl (fun _ _ _ h => absurd h.1 (fun e => nomatch e)) (wanted_rd rfl) trivial (fun wx _ => run_get (.tmp 35) 1 rfl ((ev_other _ _ (by decide)).trans (ev_same _ _ _ (by simp only [sz_put]; omega))) rfl wx) ?_
          show SeqI _ _ _ _ _ _ (Act.put _ (some 41) _) _
          refine sI_read (v := (.int .i64 0)) rfl (fun _ _ _ h => absurd h.1 (fun e => nomatch e)) (wanted_rd rfl) trivial (fun wx _ => run_get (.tmp 35) 2 rfl ((ev_other _ _ (by decide)).trans ((ev_other _ _ (by decide)).trans (ev_same _ _ _ (by simp only [sz_put]; omega)))) rfl wx) ?_
          show SeqI _ _ _ _ _ _ (Act.put _ (some 42) _) _
          refine sI_do rfl (wanted_rd rfl) (fun K hK => ?_)
          refine wp_storeRl _ (.tmp 12) (.tmp 40) rfl ((ev_other _ _ (by decide)).trans ((ev_other _ _ (by decide)).trans ((ev_other _ _ (by decide)).trans ((ev_other _ _ (by decide)).trans ((ev_other _ _ (by decide)).trans (ev_same _ _ _ (by simp only [sz_put]; omega))))))) ((ev_other _ _ (by decide)).trans ((ev_other _ _ (by decide)).trans (ev_same _ _ _ (by simp only [sz_put]; omega)))) RZ24 rfl ?_
          intro w25 m25 k25
          have jj : Below w.heap.size w w25 := below_of_kept j24 k25 j22.size j24.size
          refine hK _ _ (fun _ => trivial) ?_
          clear hK K
          refine sI_read (v := (.slice a24 ([] : List (Int × Nat)).length c24)) rfl (fun _ _ _ h => absurd h.1 (fun e => nomatch e)) (wanted_rd rfl) trivial (fun wx _ => run_assign (.tmp 41) rfl ((ev_other _ _ (by decide)).trans (ev_same _ _ _ (by simp only [sz_put]; omega))) wx) ?_
          show SeqI _ _ _ _ _ _ (Act.put _ (some 13) _) _
          refine sI_read (v := (.int .i64 0)) rfl (fun _ _ _ h => absurd h.1 (fun e => nomatch e)) (wanted_rd rfl) trivial (fun wx _ => run_assign (.tmp 42) rfl ((ev_other _ _ (by decide)).trans (ev_same _ _ _ (by simp only [sz_put]; omega))) wx) ?_
          show SeqI _ _ _ _ _ _ (Act.put _ (some 14) _) _
          refine sI_end ?_
          exact ⟨rfl, (.slice (some ⟨w9.drew.heap.size, 0, none⟩) 4 4), (.tuple #[rollV beginR, .slice a24 ([] : List (Int × Nat)).length c24, .int .i64 0]), (.slice a24 ([] : List (Int × Nat)).length c24), w22.heap.size, ⟨m25, RA24.kept k25 (Nat.ne_of_lt RA22.lt), RB24.kept k25 (Nat.ne_of_lt RB22.lt), ChRd.keep CX22 CX24 k25 (Nat.le_refl _), ChRd.keep CY22 CY24 k25 (Nat.le_refl _), jj⟩, by rw [put_swap _ 38 36 _ _ (by decide), put_swap _ 38 12 _ _ (by decide), put_swap _ 39 35 _ _ (by decide), put_swap _ 42 13 _ _ (by decide), put_swap _ 42 14 _ _ (by decide), put_swap _ 37 36 _ _ (by decide), put_swap _ 37 12 _ _ (by decide), put_swap _ 38 35 _ _ (by decide), put_swap _ 41 13 _ _ (by decide), put_swap _ 41 14 _ _ (by decide), put_swap _ 36 12 _ _ (by decide), put_swap _ 37 35 _ _ (by decide), put_swap _ 40 13 _ _ (by decide), put_swap _ 40 14 _ _ (by decide), put_swap _ 36 35 _ _ (by decide), put_swap _ 39 13 _ _ (by decide), put_swap _ 39 14 _ _ (by decide), put_swap _ 38 13 _ _ (by decide), put_swap _ 38 14 _ _ (by decide), put_swap _ 37 13 _ _ (by decide), put_swap _ 37 14 _ _ (by decide), put_swap _ 36 13 _ _ (by decide), put_swap _ 36 14 _ _ (by decide), put_swap _ 35 13 _ _ (by decide), put_swap _ 35 14 _ _ (by decide)]⟩
      · intro K hK
        refine wp_allocRl _ rfl ?_
        intro w22 z22 k22
        have RA22 := RA21.below k22
        have RB22 := RB21.below k22
        have CX22 := CX21.below k22
        have CY22 := CY21.below k22
        have SR22 := q21.below k22
        have j22 : Below w.heap.size w w22 := j21.trans (k22.mono j21.size)
        refine hK _ _ (fun _ => trivial) ?_
        clear hK K
        show SeqI _ _ _ _ _ _ (Act.put _ (some 12) _) _
        refine sI_do rfl (wanted_rd rfl) (fun K hK => ?_)
        refine wp_call0 _ 9 #[] rfl (enter_rbeg _) (refBegin_ok _) ?_
        rintro e w23 ⟨rfl, k23⟩
        have RA23 := RA22.below k23
        have RB23 := RB22.below k23
        have CX23 := CX22.below k23
        have CY23 := CY22.below k23
        have SR23 := SR22.below k23
        have RZ23 := z22.below k23
        have j23 : Below w.heap.size w w23 := j22.trans (k23.mono j22.size)
        refine ⟨_, rfl, hK _ _ (fun _ => trivial) ?_⟩
        clear hK K
        show SeqI _ _ _ _ _ _ (Act.put _ (some 36) _) _
        refine sI_do rfl (wanted_rd rfl) (fun K hK => ?_)
        refine wp_call2 _ 14 (.tmp 36) (.tmp 38) _ rfl (ev_same _ _ _ (by simp only [sz_put]; omega)) ((ev_other _ _ (by decide)).trans ((ev_other _ _ (by decide)).trans (ev_same _ _ _ (by simp only [sz_put]; omega)))) (enter_step _ _ _) ((unhide HS) beginR 0 false _ 4 4 (fun _ => false) _ (fun _ _ => ⟨R64_nought, R64_nought⟩) R64_nought (by omega) (by omega) SR23) ?_
        rw [stR_weak gdA_begin]
        dsimp only
        rintro e w24 ⟨a24, c24, rfl, _, k24⟩
        have RA24 := RA23.below k24
        have RB24 := RB23.below k24
        have CX24 := CX23.below k24
        have CY24 := CY23.below k24
        have SR24 := SR23.below k24
        have RZ24 := RZ23.below k24
        have j24 : Below w.heap.size w w24 := j23.trans (k24.mono j23.size)
        refine ⟨_, rfl, hK _ _ (fun _ => trivial) ?_⟩
        clear hK K
        show SeqI _ _ _ _ _ _ (Act.put _ (some 39) _) _
        refine sI_read (v := (.tuple #[rollV beginR, .slice a24 ([] : List (Int × Nat)).length c24, .int .i64 0])) rfl (fun _ _ _ h => absurd h.1 (fun e => nomatch e)) (wanted_rd rfl) trivial (fun wx _ => run_move (.tmp 39) rfl (ev_same _ _ _ (by simp only [sz_put]; omega)) wx) ?_
        show SeqI _ _ _ _ _ _ (Act.put _ (some 35) _) _
        refine sI_read (v := (rollV beginR)) rfl (fun _ _ _ h => absurd h.1 (fun e => nomatch e)) (wanted_rd rfl) trivial (fun wx _ => run_get (.tmp 35) 0 rfl (ev_same _ _ _ (by simp only [sz_put]; omega)) rfl wx) ?_
        show SeqI _ _ _ _ _ _ (Act.put _ (some 40) _) _
        refine sI_read (v := (.slice a24 ([] : List (Int × Nat)).length c24)) rfl (fun _ _ _ h => absurd h.1 (fun e => nomatch e)) (wanted_rd rfl) trivial (fun wx _ => run_get (.tmp 35) 1 rfl ((ev_other _ _ (by decide)).trans (ev_same _ _ _ (by simp only [sz_put]; omega))) rfl wx) ?_
        show SeqI _ _ _ _ _ _ (Act.put _ (some 41) _) _
        refine sI_read (v := (.int .i64 0)) rfl (fun _ _ _ h => absurd h.1 (fun e => nomatch e)) (wanted_rd rfl) trivial (fun wx _ => run_get (.tmp 35) 2 rfl ((ev_other _ _ (by decide)).trans ((ev_other _ _ (by decide)).trans (ev_same _ _ _ (by simp only [sz_put]; omega)))) rfl wx) ?_
        show SeqI _ _ _ _ _ _ (Act.put _ (some 42) _) _
        refine sI_do rfl (wanted_rd rfl) (fun K hK => ?_)
        refine wp_storeRl _ (.tmp 12) (.tmp 40) rfl ((ev_other _ _ (by decide)).trans ((ev_other _ _ (by decide)).trans ((ev_other _ _ (by decide)).trans ((ev_other _ _ (by decide)).trans ((ev_other _ _ (by decide)).trans ((ev_other _ _ (by decide)).trans (ev_same _ _ _ (by simp only [sz_put]; omega)))))))) ((ev_other _ _ (by decide)).trans ((ev_other _ _ (by decide)).trans (ev_same _ _ _ (by simp only [sz_put]; omega)))) RZ24 rfl ?_
        intro w25 m25 k25
        have jj : Below w.heap.size w w25 := below_of_kept j24 k25 j21.size j24.size
        refine hK _ _ (fun _ => trivial) ?_
        clear hK K
        refine sI_read (v := (.slice a24 ([] : List (Int × Nat)).length c24)) rfl (fun _ _ _ h => absurd h.1 (fun e => nomatch e)) (wanted_rd rfl) trivial (fun wx _ => run_assign (.tmp 41) rfl ((ev_other _ _ (by decide)).trans (ev_same _ _ _ (by simp only [sz_put]; omega))) wx) ?_
        show SeqI _ _ _ _ _ _ (Act.put _ (some 13) _) _
        refine sI_read (v := (.int .i64 0)) rfl (fun _ _ _ h => absurd h.1 (fun e => nomatch e)) (wanted_rd rfl) trivial (fun wx _ => run_assign (.tmp 42) rfl ((ev_other _ _ (by decide)).trans (ev_same _ _ _ (by simp only [sz_put]; omega))) wx) ?_
        show SeqI _ _ _ _ _ _ (Act.put _ (some 14) _) _
        refine sI_end ?_
        exact ⟨rfl, (.slice (some ⟨w9.drew.heap.size, 0, none⟩) 4 4), (.tuple #[rollV beginR, .slice a24 ([] : List (Int × Nat)).length c24, .int .i64 0]), (.slice a24 ([] : List (Int × Nat)).length c24), w21.heap.size, ⟨m25, RA24.kept k25 (Nat.ne_of_lt RA21.lt), RB24.kept k25 (Nat.ne_of_lt RB21.lt), ChRd.keep CX21 CX24 k25 (Nat.le_refl _), ChRd.keep CY21 CY24 k25 (Nat.le_refl _), jj⟩, by rw [put_swap _ 38 12 _ _ (by decide), put_swap _ 38 36 _ _ (by decide), put_swap _ 39 35 _ _ (by decide), put_swap _ 42 13 _ _ (by decide), put_swap _ 42 14 _ _ (by decide), put_swap _ 37 12 _ _ (by decide), put_swap _ 37 36 _ _ (by decide), put_swap _ 38 35 _ _ (by decide), put_swap _ 41 13 _ _ (by decide), put_swap _ 41 14 _ _ (by decide), put_swap _ 37 35 _ _ (by decide), put_swap _ 40 13 _ _ (by decide), put_swap _ 40 14 _ _ (by decide), put_swap _ 36 35 _ _ (by decide), put_swap _ 39 13 _ _ (by decide), put_swap _ 39 14 _ _ (by decide), put_swap _ 38 13 _ _ (by decide), put_swap _ 38 14 _ _ (by decide), put_swap _ 37 13 _ _ (by decide), put_swap _ 37 14 _ _ (by decide), put_swap _ 36 13 _ _ (by decide), put_swap _ 36 14 _ _ (by decide), put_swap _ 35 13 _ _ (by decide), put_swap _ 35 14 _ _ (by decide)]⟩
    · intro K hK
      refine wp_allocRl _ rfl ?_
      intro w21 z21 k21
      have RA21 := RA0.below k21
      have RB21 := RB0.below k21
      have CX21 := CX0.below k21
      have CY21 := CY0.below k21
      have j21 : Below w.heap.size w w21 := j0.trans (k21.mono j0.size)
      refine hK _ _ (fun _ => trivial) ?_
      clear hK K
      show SeqI _ _ _ _ _ _ (Act.put _ (some 12) _) _
      refine sI_two rfl rfl (wanted_rd rfl) (wanted_rd rfl) ?_ ?_
      · intro K hK
        refine wp_call0 _ 9 #[] rfl (enter_rbeg _) (refBegin_ok _) ?_
        rintro e w22 ⟨rfl, k22⟩
        have RA22 := RA21.below k22
        have RB22 := RB21.below k22
        have CX22 := CX21.below k22
        have CY22 := CY21.below k22
        have RZ22 := z21.below k22
        have j22 : Below w.heap.size w w22 := j21.trans (k22.mono j21.size)
        refine ⟨_, rfl, hK _ _ (fun _ => trivial) ?_⟩
        clear hK K
        show SeqI _ _ _ _ _ _ (Act.put _ (some 36) _) _
        refine sI_do rfl (wanted_rd rfl) (fun K hK => ?_)
        refine wp_makeT4 _ rfl ?_
        intro w23 q23 k23
        have RA23 := RA22.below k23
        have RB23 := RB22.below k23
        have CX23 := CX22.below k23
        have CY23 := CY22.below k23
        have RZ23 := RZ22.below k23
        have j23 : Below w.heap.size w w23 := j22.trans (k23.mono j22.size)
        refine hK _ _ (fun _ => trivial) ?_
        clear hK K
        show SeqI _ _ _ _ _ _ (Act.put _ (some 37) _) _
        refine sI_read (v := (vdV 0 false (.slice (some ⟨w22.heap.size, 0, none⟩) 4 4))) rfl (fun _ _ _ h => absurd h.1 (fun e => nomatch e)) (wanted_rd rfl) trivial (fun wx _ => run_buildV2 (.tmp 37) rfl (ev_same _ _ _ (by simp only [sz_put]; omega)) wx) ?_
        show SeqI _ _ _ _ _ _ (Act.put _ (some 38) _) _
        refine sI_do rfl (wanted_rd rfl) (fun K hK => ?_)
        refine wp_call2 _ 14 (.tmp 36) (.tmp 38) _ rfl ((ev_other _ _ (by decide)).trans ((ev_other _ _ (by decide)).trans (ev_same _ _ _ (by simp only [sz_put]; omega)))) (ev_same _ _ _ (by simp only [sz_put]; omega)) (enter_step _ _ _) ((unhide HS) beginR 0 false _ 4 4 (fun _ => false) _ (fun _ _ => ⟨R64_nought, R64_nought⟩) R64_nought (by omega) (by omega) q23) ?_
        rw [stR_weak gdA_begin]
        dsimp only
        rintro e w24 ⟨a24, c24, rfl, _, k24⟩
        have RA24 := RA23.below k24
        have RB24 := RB23.below k24
        have CX24 := CX23.below k24
        have CY24 := CY23.below k24
        have RZ24 := RZ23.below k24
        have SR24 := q23.below k24
        have j24 : Below w.heap.size w w24 := j23.trans (k24.mono j23.size)
        refine ⟨_, rfl, hK _ _ (fun _ => trivial) ?_⟩
        clear hK K
        show SeqI _ _ _ _ _ _ (Act.put _ (some 39) _) _
        refine sI_read (v := (.tuple #[rollV beginR, .slice a24 ([] : List (Int × Nat)).length c24, .int .i64 0])) rfl (fun _ _ _ h => absurd h.1 (fun e => nomatch e)) (wanted_rd rfl) trivial (fun wx _ => run_move (.tmp 39) rfl (ev_same _ _ _ (by simp only [sz_put]; omega)) wx) ?_
        show SeqI _ _ _ _ _ _ (Act.put _ (some 35) _) _
        refine sI_read (v := (rollV beginR)) rfl (fun _ _ _ h => absurd h.1 (fun e => nomatch e)) (wanted_rd rfl) trivial (fun wx _ => run_get (.tmp 35) 0 rfl (ev_same _ _ _ (by simp only [sz_put]; omega)) rfl wx) ?_
        show SeqI _ _ _ _ _ _ (Act.put _ (some 40) _) _
        refine sI_read (v := (.slice a24 ([] : List (Int × Nat)).length c24)) rfl (fun _ _ _ h => absurd h.1 (fun e => nomatch e)) (wanted_rd rfl) trivial (fun wx _ => run_get (.tmp 35) 1 rfl ((ev_other _ _ (by decide)).trans (ev_same _ _ _ (by simp only [sz_put]; omega))) rfl wx) ?_
        show SeqI _ _ _ _ _ _ (Act.put _ (some 41) _) _
        refine sI_read (v := (.int .i64 0)) rfl (fun _ _ _ h => absurd h.1 (fun e => nomatch e)) (wanted_rd rfl) trivial (fun wx _ => run_get (.tmp 35) 2 rfl ((ev_other _ _ (by decide)).trans ((ev_other _ _ (by decide)).trans (ev_same _ _ _ (by simp only [sz_put]; omega)))) rfl wx) ?_
        show SeqI _ _ _ _ _ _ (Act.put _ (some 42) _) _
        refine sI_do rfl (wanted_rd rfl) (fun K hK => ?_)
        refine wp_storeRl _ (.tmp 12) (.tmp 40) rfl ((ev_other _ _ (by decide)).trans ((ev_other _ _ (by decide)).trans ((ev_other _ _ (by decide)).trans ((ev_other _ _ (by decide)).trans ((ev_other _ _ (by decide)).trans ((ev_other _ _ (by decide)).trans ((ev_other _ _ (by decide)).trans ((ev_other _ _ (by decide)).trans (ev_same _ _ _ (by omega)))))))))) ((ev_other _ _ (by decide)).trans ((ev_other _ _ (by decide)).trans (ev_same _ _ _ (by simp only [sz_put]; omega)))) RZ24 rfl ?_
        intro w25 m25 k25
        have jj : Below w.heap.size w w25 := below_of_kept j24 k25 j0.size j24.size
        refine hK _ _ (fun _ => trivial) ?_
        clear hK K
        refine sI_read (v := (.slice a24 ([] : List (Int × Nat)).length c24)) rfl (fun _ _ _ h => absurd h.1 (fun e => nomatch e)) (wanted_rd rfl) trivial (fun wx _ => run_assign (.tmp 41) rfl ((ev_other _ _ (by decide)).trans (ev_same _ _ _ (by simp only [sz_put]; omega))) wx) ?_
        show SeqI _ _ _ _ _ _ (Act.put _ (some 13) _) _
        refine sI_read (v := (.int .i64 0)) rfl (fun _ _ _ h => absurd h.1 (fun e => nomatch e)) (wanted_rd rfl) trivial (fun wx _ => run_assign (.tmp 42) rfl ((ev_other _ _ (by decide)).trans (ev_same _ _ _ (by simp only [sz_put]; omega))) wx) ?_
        show SeqI _ _ _ _ _ _ (Act.put _ (some 14) _) _
        refine sI_end ?_
        exact ⟨rfl, (.slice (some ⟨w22.heap.size, 0, none⟩) 4 4), (.tuple #[rollV beginR, .slice a24 ([] : List (Int × Nat)).length c24, .int .i64 0]), (.slice a24 ([] : List (Int × Nat)).length c24), w9.drew.heap.size, ⟨m25, RA24.kept k25 (Nat.ne_of_lt RA0.lt), RB24.kept k25 (Nat.ne_of_lt RB0.lt), ChRd.keep CX0 CX24 k25 (Nat.le_refl _), ChRd.keep CY0 CY24 k25 (Nat.le_refl _), jj⟩, by rw [put_swap _ 39 35 _ _ (by decide), put_swap _ 42 13 _ _ (by decide), put_swap _ 42 14 _ _ (by decide), put_swap _ 38 35 _ _ (by decide), put_swap _ 41 13 _ _ (by decide), put_swap _ 41 14 _ _ (by decide), put_swap _ 37 35 _ _ (by decide), put_swap _ 40 13 _ _ (by decide), put_swap _ 40 14 _ _ (by decide), put_swap _ 36 35 _ _ (by decide), put_swap _ 39 13 _ _ (by decide), put_swap _ 39 14 _ _ (by decide), put_swap _ 38 13 _ _ (by decide), put_swap _ 38 14 _ _ (by decide), put_swap _ 37 13 _ _ (by decide), put_swap _ 37 14 _ _ (by decide), put_swap _ 36 13 _ _ (by decide), put_swap _ 36 14 _ _ (by decide), put_swap _ 35 13 _ _ (by decide), put_swap _ 35 14 _ _ (by decide)]⟩
      · intro K hK
        refine wp_makeT4 _ rfl ?_
        intro w22 q22 k22
        have RA22 := RA21.below k22
        have RB22 := RB21.below k22
        have CX22 := CX21.below k22
        have CY22 := CY21.below k22
        have RZ22 := z21.below k22
        have j22 : Below w.heap.size w w22 := j21.trans (k22.mono j21.size)
        refine hK _ _ (fun _ => trivial) ?_
        clear hK K
        show SeqI _ _ _ _ _ _ (Act.put _ (some 37) _) _
        refine sI_read (v := (vdV 0 false (.slice (some ⟨w21.heap.size, 0, none⟩) 4 4))) rfl (fun _ _ _ h => absurd h.1 (fun e => nomatch e)) (wanted_rd rfl) trivial (fun wx _ => run_buildV2 (.tmp 37) rfl (ev_same _ _ _ (by simp only [sz_put]; omega)) wx) ?_
        show SeqI _ _ _ _ _ _ (Act.put _ (some 38) _) _
        refine sI_do rfl (wanted_rd rfl) (fun K hK => ?_)
        refine wp_call0 _ 9 #[] rfl (enter_rbeg _) (refBegin_ok _) ?_
        rintro e w23 ⟨rfl, k23⟩
        have RA23 := RA22.below k23
        have RB23 := RB22.below k23
        have CX23 := CX22.below k23
        have CY23 := CY22.below k23
        have RZ23 := RZ22.below k23
        have SR23 := q22.below k23
        have j23 : Below w.heap.size w w23 := j22.trans (k23.mono j22.size)
        refine ⟨_, rfl, hK _ _ (fun _ => trivial) ?_⟩
        clear hK K
        show SeqI _ _ _ _ _ _ (Act.put _ (some 36) _) _
        refine sI_do rfl (wanted_rd rfl) (fun K hK => ?_)
        refine wp_call2 _ 14 (.tmp 36) (.tmp 38) _ rfl (ev_same _ _ _ (by simp only [sz_put]; omega)) ((ev_other _ _ (by decide)).trans (ev_same _ _ _ (by simp only [sz_put]; omega))) (enter_step _ _ _) ((unhide HS) beginR 0 false _ 4 4 (fun _ => false) _ (fun _ _ => ⟨R64_nought, R64_nought⟩) R64_nought (by omega) (by omega) SR23) ?_
        rw [stR_weak gdA_begin]
        dsimp only
        rintro e w24 ⟨a24, c24, rfl, _, k24⟩
        have RA24 := RA23.below k24
        have RB24 := RB23.below k24
        have CX24 := CX23.below k24
        have CY24 := CY23.below k24
        have RZ24 := RZ23.below k24
        have SR24 := SR23.below k24
        have j24 : Below w.heap.size w w24 := j23.trans (k24.mono j23.size)
        refine ⟨_, rfl, hK _ _ (fun _ => trivial) ?_⟩
        clear hK K
        show SeqI _ _ _ _ _ _ (Act.put _ (some 39) _) _
        refine sI_read (v := (.tuple #[rollV beginR, .slice a24 ([] : List (Int × Nat)).length c24, .int .i64 0])) rfl (fun _ _ _ h => absurd h.1 (fun e => nomatch e)) (wanted_rd rfl) trivial (fun wx _ => run_move (.tmp 39) rfl (ev_same _ _ _ (by simp only [sz_put]; omega)) wx) ?_
        show SeqI _ _ _ _ _ _ (Act.put _ (some 35) _) _
        refine sI_read (v := (rollV beginR)) rfl (fun _ _ _ h => absurd h.1 (fun e => nomatch e)) (wanted_rd rfl) trivial (fun wx _ => run_get (.tmp 35) 0 rfl (ev_same _ _ _ (by simp only [sz_put]; omega)) rfl wx) ?_
        show SeqI _ _ _ _ _ _ (Act.put _ (some 40) _) _
        refine sI_read (v := (.slice a24 ([] : List (Int × Nat)).length c24)) rfl (fun _ _ _ h => absurd h.1 (fun e => nomatch e)) (wanted_rd rfl) trivial (fun wx _ => run_get (.tmp 35) 1 rfl ((ev_other _ _ (by decide)).trans (ev_same _ _ _ (by simp only [sz_put]; omega))) rfl wx) ?_
        show SeqI _ _ _ _ _ _ (Act.put _ (some 41) _) _
        refine sI_read (v := (.int .i64 0)) rfl (fun _ _ _ h => absurd h.1 (fun e => nomatch e)) (wanted_rd rfl) trivial (fun wx _ => run_get (.tmp 35) 2 rfl ((ev_other _ _ (by decide)).trans ((ev_other _ _ (by decide)).trans (ev_same _ _ _ (by simp only [sz_put]; omega)))) rfl wx) ?_
        show SeqI _ _ _ _ _ _ (Act.put _ (some 42) _) _
        refine sI_do rfl (wanted_rd rfl) (fun K hK => ?_)
        refine wp_storeRl _ (.tmp 12) (.tmp 40) rfl ((ev_other _ _ (by decide)).trans ((ev_other _ _ (by decide)).trans ((ev_other _ _ (by decide)).trans ((ev_other _ _ (by decide)).trans ((ev_other _ _ (by decide)).trans ((ev_other _ _ (by decide)).trans ((ev_other _ _ (by decide)).trans ((ev_other _ _ (by decide)).trans (ev_same _ _ _ (by omega)))))))))) ((ev_other _ _ (by decide)).trans ((ev_other _ _ (by decide)).trans (ev_same _ _ _ (by simp only [sz_put]; omega)))) RZ24 rfl ?_
        intro w25 m25 k25
        have jj : Below w.heap.size w w25 := below_of_kept j24 k25 j0.size j24.size
        refine hK _ _ (fun _ => trivial) ?_
        clear hK K
        refine sI_read (v := (.slice a24 ([] : List (Int × Nat)).length c24)) rfl (fun _ _ _ h => absurd h.1 (fun e => nomatch e)) (wanted_rd rfl) trivial (fun wx _ => run_assign (.tmp 41) rfl ((ev_other _ _ (by decide)).trans (ev_same _ _ _ (by simp only [sz_put]; omega))) wx) ?_
        show SeqI _ _ _ _ _ _ (Act.put _ (some 13) _) _
        refine sI_read (v := (.int .i64 0)) rfl (fun _ _ _ h => absurd h.1 (fun e => nomatch e)) (wanted_rd rfl) trivial (fun wx _ => run_assign (.tmp 42) rfl ((ev_other _ _ (by decide)).trans (ev_same _ _ _ (by simp only [sz_put]; omega))) wx) ?_
        show SeqI _ _ _ _ _ _ (Act.put _ (some 14) _) _
        refine sI_end ?_
        exact ⟨rfl, (.slice (some ⟨w21.heap.size, 0, none⟩) 4 4), (.tuple #[rollV beginR, .slice a24 ([] : List (Int × Nat)).length c24, .int .i64 0]), (.slice a24 ([] : List (Int × Nat)).length c24), w9.drew.heap.size, ⟨m25, RA24.kept k25 (Nat.ne_of_lt RA0.lt), RB24.kept k25 (Nat.ne_of_lt RB0.lt), ChRd.keep CX0 CX24 k25 (Nat.le_refl _), ChRd.keep CY0 CY24 k25 (Nat.le_refl _), jj⟩, by rw [put_swap _ 38 36 _ _ (by decide), put_swap _ 39 35 _ _ (by decide), put_swap _ 42 13 _ _ (by decide), put_swap _ 42 14 _ _ (by decide), put_swap _ 37 36 _ _ (by decide), put_swap _ 38 35 _ _ (by decide), put_swap _ 41 13 _ _ (by decide), put_swap _ 41 14 _ _ (by decide), put_swap _ 37 35 _ _ (by decide), put_swap _ 40 13 _ _ (by decide), put_swap _ 40 14 _ _ (by decide), put_swap _ 36 35 _ _ (by decide), put_swap _ 39 13 _ _ (by decide), put_swap _ 39 14 _ _ (by decide), put_swap _ 38 13 _ _ (by decide), put_swap _ 38 14 _ _ (by decide), put_swap _ 37 13 _ _ (by decide), put_swap _ 37 14 _ _ (by decide), put_swap _ 36 13 _ _ (by decide), put_swap _ 36 14 _ _ (by decide), put_swap _ 35 13 _ _ (by decide), put_swap _ 35 14 _ _ (by decide)]⟩
  case rest5 =>
    rintro a' w11 ⟨x37, x39, x41, nb, ⟨r1, r2, r3, h1, h2, k11⟩, rfl⟩
    have R1 := hide r1; have R2 := hide r2; have R3 := hide r3; have H1 := hide h1; have H2 := hide h2; have K11 := hide k11
    have n0 := r1.inn (i := 0) (by omega)
    have n0' : w11.cell? ⟨nb, 0, none⟩ = some (.bool true) := n0
    clear r1 r2 r3 h1 h2 k11 n0 RA RB CX CY K9
    go_frame
    have tk : (kE == kE) = true := by simp
    go_wp2_with (first | refine wpList_loadRl _ rfl (.tmp 6) rfl rfl (unhide R2) ?_ | refine wpList_loadRl _ rfl (.tmp 9) rfl rfl (unhide R3) ?_ | refine wpList_neqRl _ rfl (.tmp 43) (.tmp 44) rfl (r := R) rfl rfl ?_)
    clear n0' R1 R2 R3
    go_loopw [15] (fun is wr => ∃ i : Nat, is = .int .i64 i ∧ i ≤ L.length ∧ ChRd 0 wr ax L ∧ ChRd 0 wr ay L ∧ Below w.heap.size w wr) (fun is _ => L.length - (intOf is).toNat)
    case atStart => exact ⟨0, rfl, Nat.zero_le _, unhide H1, unhide H2, unhide K11⟩
    case round =>
      obtain ⟨i, rfl, hi, hx, hy, hk⟩ := hrel
      rename World => wr
      have HX := hide hx; have HY := hide hy; have HK := hide hk
      clear hx hy hk H1 H2 K11
      by_cases hin : i < L.length
      · obtain ⟨bx, ox, rfl, _, gx⟩ := unhide HX (by omega)
        obtain ⟨by_, oy, rfl, _, gy⟩ := unhide HY (by omega)
        have ec := List.getElem?_eq_getElem hin
        obtain ⟨c1, c2⟩ := gx i _ ec
        obtain ⟨d1, d2⟩ := gy i _ ec
        obtain ⟨p, ep⟩ : ∃ p, L[i].1 = p := ⟨_, rfl⟩
        obtain ⟨q, eq⟩ : ∃ q, L[i].2 = q := ⟨_, rfl⟩
        rw [ep] at c1 d1
        rw [eq] at c2 d2
        have hin' : (i : Int) < (L.length : Int) := by omega
        have tp : (p == p) = true := by simp
        have tq : ((q : Int) == (q : Int)) = true := by simp
        have X2 := hide ((unhide HX).below (below_drew (Below.refl _ _))); have Y2 := hide ((unhide HY).below (below_drew (Below.refl _ _))); have K2 := hide (below_drew (unhide HK))
        clear gx gy ec ep eq
        go_wp2_with fail
        go_region
        go_wp2_with fail
        go_roundw
        case rel => exact ⟨i + 1, by go_num, by omega, unhide X2, unhide Y2, unhide K2⟩
        case measure => simp [intOf] <;> omega
      · have e9 : i = L.length := by omega
        have hin' : ¬ (i : Int) < (L.length : Int) := by omega
        go_wp2_with fail
        go_ret
        exact ⟨rfl, unhide HK⟩

end Go.Proofs.Ytbgdjldmplkecaa
