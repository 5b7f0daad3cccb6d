/- slices.symMergeCmpFunc at parcels. -/
import Derived.Test.YthjeedlhlkggkabStaOne
import Derived.Test.YthjeedlhlkggkabLst
import Derived.Deep.Cut
namespace Go.Proofs.Ythjeedlhlkggkab
open Go.RowKit

noncomputable def tail40 : Code := second ((Try.f33.body.bind (findSeq 38)).getD .skip)
set_option maxHeartbeats 4000000 in
set_option maxRecDepth 1000000 in
theorem symTail_any (g cap n : Nat) (F : Nat → Lp) (d : Nat → Nat) (a m b c s E : Nat) (w wr : World) (hS : SoR wr g cap n F d) (hK0 : Kept g w wr) (ml : Mg (TQ fun y => (F y).p) (rotD d s m E) a s c) (mr : Mg (TQ fun y => (F y).p) (rotD d s m E) c E b)
    (mx : ∀ i j, a ≤ i → i < c → c ≤ j → j < b → TQ (fun y => (F y).p) (rotD d s m E i) (rotD d s m E j)) (s1 : a ≤ s) (s2 : s ≤ c) (s3 : s ≤ m) (E1 : c ≤ E) (E2 : E ≤ b) (E3 : m ≤ E) (h3 : b ≤ n) (hn : n ≤ 2513169434843) (hc : a < c ∧ c < b)
    (IH : ∀ (d : Nat → Nat) (a' m' b' : Nat) (w : World), b' - a' < b - a → SoR w g cap n F d → Mg (TQ fun y => (F y).p) d a' m' b' → a' < m' → m' < b' → b' ≤ n → Calls Try.prog 33 #[.slice (some ⟨g, 0, none⟩) n cap, .int .i64 (a' : Int), .int .i64 (m' : Int), .int .i64 (b' : Int), (.func (.func 26) #[] #[])] w fun e w' => e = .returned (.tuple #[]) ∧ ∃ e : Nat → Nat, Same a' b' d e ∧ SoT (TQ fun y => (F y).p) e a' b' ∧ SoR w' g cap n F e ∧ Kept g w w')
    (A : Act) (Q : Exit → Act → World → Prop) (b0 : A.eval (.tmp 0) = .slice (some ⟨g, 0, none⟩) n cap) (b1 : A.eval (.tmp 1) = .int .i64 (a : Int)) (b2 : A.eval (.tmp 2) = .int .i64 (m : Int)) (b3 : A.eval (.tmp 3) = .int .i64 (b : Int)) (b4 : A.eval (.tmp 4) = (.func (.func 26) #[] #[])) (b18 : A.eval (.tmp 18) = .int .i64 (c : Int)) (b20 : A.eval (.tmp 20) = .int .i64 (s : Int)) (b24 : A.eval (.tmp 24) = .int .i64 (E : Int)) (hs : 220 ≤ A.tmps.size)
    (hQ : ∀ a' w', a'.defers = A.defers → (∃ e : Nat → Nat, Same a b d e ∧ SoT (TQ fun y => (F y).p) e a b ∧ SoR w' g cap n F e ∧ Kept g w w') → Q .normal a' w') : tail40.wp Try.prog Q A wr := by
  refine CodI.out ?_
  unfold tail40
  conv => arg 2; whnf
  refine c_seq (fun A1 w1 => Stay [0, 1, 2, 3, 4, 18, 20, 24] A A1 ∧ SoR w1 g cap n F (rotD d s m E) ∧ Kept g w w1) ?_ ?_
  · skip
    conv => arg 2; whnf
    by_cases q1 : s < m
    · by_cases q2 : m < E
      · have hcall := rotate_any g cap n F d s m E wr hS q1 q2 (by omega) hn
        refine c_seq (fun a2 w2 => Stay [0, 1, 2, 3, 4, 18, 20, 24] A a2 ∧ a2.eval (.tmp 185) = .bool true ∧ w2 = wr) ?_ ?_
        · refine c_region ?_
          refine l_mv (v := (.int .i64 ((s : Int)))) (wanted_rd rfl) (run_move (.tmp 20) rfl b20 _) ?_
          show LstI _ _ _ _ (Act.put _ (some 178) _) _
          refine l_mv (v := (.int .i64 ((m : Int)))) (wanted_rd rfl) (run_move (.tmp 2) rfl ((ev_other _ _ (by decide)).trans b2) _) ?_
          show LstI _ _ _ _ (Act.put _ (some 179) _) _
          refine l_mv (v := (.bool true)) (wanted_rd rfl) (run_ltP (.tmp 178) (.tmp 179) rfl ((ev_other _ _ (by decide)).trans (ev_same _ _ _ (by omega))) (ev_same _ _ _ (by simp only [sz_put]; omega)) (decide_eq_true (by omega)) _) ?_
          show LstI _ _ _ _ (Act.put _ (some 180) _) _
          refine l_mv (v := (.bool true)) (wanted_rd rfl) (run_move (.tmp 180) rfl (ev_same _ _ _ (by simp only [sz_put]; omega)) _) ?_
          show LstI _ _ _ _ (Act.put _ (some 181) _) _
          refine l_mv (v := (.int .i64 ((m : Int)))) (wanted_g (j := 3) rfl rfl rfl (ev_same _ _ _ (by simp only [sz_put]; omega))) (run_move (.tmp 2) rfl ((ev_other _ _ (by decide)).trans ((ev_other _ _ (by decide)).trans ((ev_other _ _ (by decide)).trans ((ev_other _ _ (by decide)).trans b2)))) _) ?_
          show LstI _ _ _ _ (Act.put _ (some 182) _) _
          refine l_mv (v := (.int .i64 ((E : Int)))) (wanted_g (j := 3) rfl rfl rfl ((ev_other _ _ (by decide)).trans (ev_same _ _ _ (by simp only [sz_put]; omega)))) (run_move (.tmp 24) rfl ((ev_other _ _ (by decide)).trans ((ev_other _ _ (by decide)).trans ((ev_other _ _ (by decide)).trans ((ev_other _ _ (by decide)).trans ((ev_other _ _ (by decide)).trans b24))))) _) ?_
          show LstI _ _ _ _ (Act.put _ (some 183) _) _
          refine l_mv (v := (.bool true)) (wanted_g (j := 3) rfl rfl rfl ((ev_other _ _ (by decide)).trans ((ev_other _ _ (by decide)).trans (ev_same _ _ _ (by simp only [sz_put]; omega))))) (run_ltP (.tmp 182) (.tmp 183) rfl ((ev_other _ _ (by decide)).trans (ev_same _ _ _ (by simp only [sz_put]; omega))) (ev_same _ _ _ (by simp only [sz_put]; omega)) (decide_eq_true (by omega)) _) ?_
          show LstI _ _ _ _ (Act.put _ (some 184) _) _
          refine l_mv (v := (.bool true)) (wanted_rd rfl) (run_pickT' (.tmp 181) (.tmp 184) (.const (.bool false)) rfl ((ev_other _ _ (by decide)).trans ((ev_other _ _ (by decide)).trans ((ev_other _ _ (by decide)).trans (ev_same _ _ _ (by simp only [sz_put]; omega))))) (ev_same _ _ _ (by simp only [sz_put]; omega)) _) ?_
          show LstI _ _ _ _ (Act.put _ (some 185) _) _
          exact l_end ⟨rfl, (((((((((Stay.refl _ _).put 178 _ rfl).put 179 _ rfl).put 180 _ rfl).put 181 _ rfl).put 182 _ rfl).put 183 _ rfl).put 184 _ rfl).put 185 _ rfl), (ev_same _ _ _ (by simp only [sz_put]; omega)), rfl⟩
        · rintro A2 w2 ⟨st, hb, rfl⟩
          have hz : 220 ≤ A2.tmps.size := by rw [st.size]; exact hs
          clear hs
          have hs := hz
          refine c_true hb ?_
          refine c_region ?_
          refine l_mv (v := (.slice (some ⟨g, 0, none⟩) n cap)) (wanted_rd rfl) (run_move (.tmp 0) rfl ((st.ev 0 (by decide)).trans b0) _) ?_
          show LstI _ _ _ _ (Act.put _ (some 186) _) _
          refine l_mv (v := (.int .i64 ((s : Int)))) (wanted_rd rfl) (run_move (.tmp 20) rfl ((ev_other _ _ (by decide)).trans ((st.ev 20 (by decide)).trans b20)) _) ?_
          show LstI _ _ _ _ (Act.put _ (some 187) _) _
          refine l_mv (v := (.int .i64 ((m : Int)))) (wanted_rd rfl) (run_move (.tmp 2) rfl ((ev_other _ _ (by decide)).trans ((ev_other _ _ (by decide)).trans ((st.ev 2 (by decide)).trans b2))) _) ?_
          show LstI _ _ _ _ (Act.put _ (some 188) _) _
          refine l_mv (v := (.int .i64 ((E : Int)))) (wanted_rd rfl) (run_move (.tmp 24) rfl ((ev_other _ _ (by decide)).trans ((ev_other _ _ (by decide)).trans ((ev_other _ _ (by decide)).trans ((st.ev 24 (by decide)).trans b24)))) _) ?_
          show LstI _ _ _ _ (Act.put _ (some 189) _) _
          refine l_mv (v := (.func (.func 26) #[] #[])) (wanted_rd rfl) (run_move (.tmp 4) rfl ((ev_other _ _ (by decide)).trans ((ev_other _ _ (by decide)).trans ((ev_other _ _ (by decide)).trans ((ev_other _ _ (by decide)).trans ((st.ev 4 (by decide)).trans b4))))) _) ?_
          show LstI _ _ _ _ (Act.put _ (some 190) _) _
          refine l_do (wanted_rd rfl) (fun K hK => ?_)
          refine wp_call5 _ 35 (.tmp 186) (.tmp 187) (.tmp 188) (.tmp 189) (.tmp 190) _ rfl ((ev_other _ _ (by decide)).trans ((ev_other _ _ (by decide)).trans ((ev_other _ _ (by decide)).trans ((ev_other _ _ (by decide)).trans (ev_same _ _ _ (by omega)))))) ((ev_other _ _ (by decide)).trans ((ev_other _ _ (by decide)).trans ((ev_other _ _ (by decide)).trans (ev_same _ _ _ (by simp only [sz_put]; omega))))) ((ev_other _ _ (by decide)).trans ((ev_other _ _ (by decide)).trans (ev_same _ _ _ (by simp only [sz_put]; omega)))) ((ev_other _ _ (by decide)).trans (ev_same _ _ _ (by simp only [sz_put]; omega))) (ev_same _ _ _ (by simp only [sz_put]; omega)) (by go_simp) hcall ?_
          rintro e w3 ⟨rfl, m3, k3⟩
          refine ⟨_, rfl, ?_⟩
          refine hK _ _ ?_
          clear hK K
          show LstI _ _ _ _ (Act.put _ (some 191) _) _
          exact l_end ⟨rfl, ((((((st.put 186 _ rfl).put 187 _ rfl).put 188 _ rfl).put 189 _ rfl).put 190 _ rfl).put 191 _ rfl), m3, hK0.trans k3 (Or.inl rfl)⟩
      ·
        refine c_seq (fun a2 w2 => Stay [0, 1, 2, 3, 4, 18, 20, 24] A a2 ∧ a2.eval (.tmp 185) = .bool false ∧ w2 = wr) ?_ ?_
        · refine c_region ?_
          refine l_mv (v := (.int .i64 ((s : Int)))) (wanted_rd rfl) (run_move (.tmp 20) rfl b20 _) ?_
          show LstI _ _ _ _ (Act.put _ (some 178) _) _
          refine l_mv (v := (.int .i64 ((m : Int)))) (wanted_rd rfl) (run_move (.tmp 2) rfl ((ev_other _ _ (by decide)).trans b2) _) ?_
          show LstI _ _ _ _ (Act.put _ (some 179) _) _
          refine l_mv (v := (.bool true)) (wanted_rd rfl) (run_ltP (.tmp 178) (.tmp 179) rfl ((ev_other _ _ (by decide)).trans (ev_same _ _ _ (by omega))) (ev_same _ _ _ (by simp only [sz_put]; omega)) (decide_eq_true (by omega)) _) ?_
          show LstI _ _ _ _ (Act.put _ (some 180) _) _
          refine l_mv (v := (.bool true)) (wanted_rd rfl) (run_move (.tmp 180) rfl (ev_same _ _ _ (by simp only [sz_put]; omega)) _) ?_
          show LstI _ _ _ _ (Act.put _ (some 181) _) _
          refine l_mv (v := (.int .i64 ((m : Int)))) (wanted_g (j := 3) rfl rfl rfl (ev_same _ _ _ (by simp only [sz_put]; omega))) (run_move (.tmp 2) rfl ((ev_other _ _ (by decide)).trans ((ev_other _ _ (by decide)).trans ((ev_other _ _ (by decide)).trans ((ev_other _ _ (by decide)).trans b2)))) _) ?_
          show LstI _ _ _ _ (Act.put _ (some 182) _) _
          refine l_mv (v := (.int .i64 ((E : Int)))) (wanted_g (j := 3) rfl rfl rfl ((ev_other _ _ (by decide)).trans (ev_same _ _ _ (by simp only [sz_put]; omega)))) (run_move (.tmp 24) rfl ((ev_other _ _ (by decide)).trans ((ev_other _ _ (by decide)).trans ((ev_other _ _ (by decide)).trans ((ev_other _ _ (by decide)).trans ((ev_other _ _ (by decide)).trans b24))))) _) ?_
          show LstI _ _ _ _ (Act.put _ (some 183) _) _
          refine l_mv (v := (.bool false)) (wanted_g (j := 3) rfl rfl rfl ((ev_other _ _ (by decide)).trans ((ev_other _ _ (by decide)).trans (ev_same _ _ _ (by simp only [sz_put]; omega))))) (run_ltP (.tmp 182) (.tmp 183) rfl ((ev_other _ _ (by decide)).trans (ev_same _ _ _ (by simp only [sz_put]; omega))) (ev_same _ _ _ (by simp only [sz_put]; omega)) (decide_eq_false (by omega)) _) ?_
          show LstI _ _ _ _ (Act.put _ (some 184) _) _
          refine l_mv (v := (.bool false)) (wanted_rd rfl) (run_pickT' (.tmp 181) (.tmp 184) (.const (.bool false)) rfl ((ev_other _ _ (by decide)).trans ((ev_other _ _ (by decide)).trans ((ev_other _ _ (by decide)).trans (ev_same _ _ _ (by simp only [sz_put]; omega))))) (ev_same _ _ _ (by simp only [sz_put]; omega)) _) ?_
          show LstI _ _ _ _ (Act.put _ (some 185) _) _
          exact l_end ⟨rfl, (((((((((Stay.refl _ _).put 178 _ rfl).put 179 _ rfl).put 180 _ rfl).put 181 _ rfl).put 182 _ rfl).put 183 _ rfl).put 184 _ rfl).put 185 _ rfl), (ev_same _ _ _ (by simp only [sz_put]; omega)), rfl⟩
        · rintro A2 w2 ⟨st, hb, rfl⟩
          refine c_false hb ?_
          exact c_skip ⟨rfl, st, by rw [rotD_none (by omega) s3 E3]; exact hS, hK0⟩
    ·
      refine c_seq (fun a2 w2 => Stay [0, 1, 2, 3, 4, 18, 20, 24] A a2 ∧ a2.eval (.tmp 185) = .bool false ∧ w2 = wr) ?_ ?_
      · refine c_region ?_
        refine l_mv (v := (.int .i64 ((s : Int)))) (wanted_rd rfl) (run_move (.tmp 20) rfl b20 _) ?_
        show LstI _ _ _ _ (Act.put _ (some 178) _) _
        refine l_mv (v := (.int .i64 ((m : Int)))) (wanted_rd rfl) (run_move (.tmp 2) rfl ((ev_other _ _ (by decide)).trans b2) _) ?_
        show LstI _ _ _ _ (Act.put _ (some 179) _) _
        refine l_mv (v := (.bool false)) (wanted_rd rfl) (run_ltP (.tmp 178) (.tmp 179) rfl ((ev_other _ _ (by decide)).trans (ev_same _ _ _ (by omega))) (ev_same _ _ _ (by simp only [sz_put]; omega)) (decide_eq_false (by omega)) _) ?_
        show LstI _ _ _ _ (Act.put _ (some 180) _) _
        refine l_mv (v := (.bool false)) (wanted_rd rfl) (run_move (.tmp 180) rfl (ev_same _ _ _ (by simp only [sz_put]; omega)) _) ?_
        show LstI _ _ _ _ (Act.put _ (some 181) _) _
        refine l_skip (wanted_n (j := 3) rfl rfl rfl (ev_same _ _ _ (by simp only [sz_put]; omega)) (by decide)) ?_
        show LstI _ _ _ _ (Act.put _ (some 182) _) _
        refine l_skip (wanted_n (j := 3) rfl rfl rfl ((ev_other _ _ (by decide)).trans (ev_same _ _ _ (by simp only [sz_put]; omega))) (by decide)) ?_
        show LstI _ _ _ _ (Act.put _ (some 183) _) _
        refine l_skip (wanted_n (j := 3) rfl rfl rfl ((ev_other _ _ (by decide)).trans ((ev_other _ _ (by decide)).trans (ev_same _ _ _ (by simp only [sz_put]; omega)))) (by decide)) ?_
        show LstI _ _ _ _ (Act.put _ (some 184) _) _
        refine l_mv (v := (.bool false)) (wanted_rd rfl) (run_pickF (.tmp 181) (.tmp 184) (.const (.bool false)) rfl ((ev_other _ _ (by decide)).trans ((ev_other _ _ (by decide)).trans ((ev_other _ _ (by decide)).trans (ev_same _ _ _ (by simp only [sz_put]; omega))))) rfl _) ?_
        show LstI _ _ _ _ (Act.put _ (some 185) _) _
        exact l_end ⟨rfl, (((((((((Stay.refl _ _).put 178 _ rfl).put 179 _ rfl).put 180 _ rfl).put 181 _ rfl).put 182 _ rfl).put 183 _ rfl).put 184 _ rfl).put 185 _ rfl), (ev_same _ _ _ (by simp only [sz_put]; omega)), rfl⟩
      · rintro A2 w2 ⟨st, hb, rfl⟩
        refine c_false hb ?_
        exact c_skip ⟨rfl, st, by rw [rotD_none (by omega) s3 E3]; exact hS, hK0⟩
  rintro A1 w1 ⟨st1, hS1, hK1⟩
  have p0 := (st1.ev 0 (by decide)).trans b0
  have p1 := (st1.ev 1 (by decide)).trans b1
  have p2 := (st1.ev 2 (by decide)).trans b2
  have p3 := (st1.ev 3 (by decide)).trans b3
  have p4 := (st1.ev 4 (by decide)).trans b4
  have p18 := (st1.ev 18 (by decide)).trans b18
  have p20 := (st1.ev 20 (by decide)).trans b20
  have p24 := (st1.ev 24 (by decide)).trans b24
  have hsp : 220 ≤ A1.tmps.size := by rw [st1.size]; exact hs
  clear hs
  have hs := hsp
  conv => arg 2; whnf
  refine c_seq (fun A2 w2 => Stay [0, 1, 2, 3, 4, 18, 20, 24] A1 A2 ∧ ∃ e : Nat → Nat, Same a c (rotD d s m E) e ∧ SoT (TQ fun y => (F y).p) e a c ∧ SoR w2 g cap n F e ∧ Kept g w w2) ?_ ?_
  · skip
    conv => arg 2; whnf
    by_cases q1 : a < s
    · by_cases q2 : s < c
      · have hcall := IH (rotD d s m E) a s c w1 (by omega) hS1 ml q1 q2 (by omega)
        refine c_seq (fun a2 w9 => Stay [0, 1, 2, 3, 4, 18, 20, 24] A1 a2 ∧ a2.eval (.tmp 199) = .bool true ∧ w9 = w1) ?_ ?_
        · refine c_region ?_
          refine l_mv (v := (.int .i64 ((a : Int)))) (wanted_rd rfl) (run_move (.tmp 1) rfl p1 _) ?_
          show LstI _ _ _ _ (Act.put _ (some 192) _) _
          refine l_mv (v := (.int .i64 ((s : Int)))) (wanted_rd rfl) (run_move (.tmp 20) rfl ((ev_other _ _ (by decide)).trans p20) _) ?_
          show LstI _ _ _ _ (Act.put _ (some 193) _) _
          refine l_mv (v := (.bool true)) (wanted_rd rfl) (run_ltP (.tmp 192) (.tmp 193) rfl ((ev_other _ _ (by decide)).trans (ev_same _ _ _ (by omega))) (ev_same _ _ _ (by simp only [sz_put]; omega)) (decide_eq_true (by omega)) _) ?_
          show LstI _ _ _ _ (Act.put _ (some 194) _) _
          refine l_mv (v := (.bool true)) (wanted_rd rfl) (run_move (.tmp 194) rfl (ev_same _ _ _ (by simp only [sz_put]; omega)) _) ?_
          show LstI _ _ _ _ (Act.put _ (some 195) _) _
          refine l_mv (v := (.int .i64 ((s : Int)))) (wanted_g (j := 3) rfl rfl rfl (ev_same _ _ _ (by simp only [sz_put]; omega))) (run_move (.tmp 20) rfl ((ev_other _ _ (by decide)).trans ((ev_other _ _ (by decide)).trans ((ev_other _ _ (by decide)).trans ((ev_other _ _ (by decide)).trans p20)))) _) ?_
          show LstI _ _ _ _ (Act.put _ (some 196) _) _
          refine l_mv (v := (.int .i64 ((c : Int)))) (wanted_g (j := 3) rfl rfl rfl ((ev_other _ _ (by decide)).trans (ev_same _ _ _ (by simp only [sz_put]; omega)))) (run_move (.tmp 18) rfl ((ev_other _ _ (by decide)).trans ((ev_other _ _ (by decide)).trans ((ev_other _ _ (by decide)).trans ((ev_other _ _ (by decide)).trans ((ev_other _ _ (by decide)).trans p18))))) _) ?_
          show LstI _ _ _ _ (Act.put _ (some 197) _) _
          refine l_mv (v := (.bool true)) (wanted_g (j := 3) rfl rfl rfl ((ev_other _ _ (by decide)).trans ((ev_other _ _ (by decide)).trans (ev_same _ _ _ (by simp only [sz_put]; omega))))) (run_ltP (.tmp 196) (.tmp 197) rfl ((ev_other _ _ (by decide)).trans (ev_same _ _ _ (by simp only [sz_put]; omega))) (ev_same _ _ _ (by simp only [sz_put]; omega)) (decide_eq_true (by omega)) _) ?_
          show LstI _ _ _ _ (Act.put _ (some 198) _) _
          refine l_mv (v := (.bool true)) (wanted_rd rfl) (run_pickT' (.tmp 195) (.tmp 198) (.const (.bool false)) rfl ((ev_other _ _ (by decide)).trans ((ev_other _ _ (by decide)).trans ((ev_other _ _ (by decide)).trans (ev_same _ _ _ (by simp only [sz_put]; omega))))) (ev_same _ _ _ (by simp only [sz_put]; omega)) _) ?_
          show LstI _ _ _ _ (Act.put _ (some 199) _) _
          exact l_end ⟨rfl, (((((((((Stay.refl _ _).put 192 _ rfl).put 193 _ rfl).put 194 _ rfl).put 195 _ rfl).put 196 _ rfl).put 197 _ rfl).put 198 _ rfl).put 199 _ rfl), (ev_same _ _ _ (by simp only [sz_put]; omega)), rfl⟩
        · rintro A9 w9 ⟨st, hb, rfl⟩
          have hz : 220 ≤ A9.tmps.size := by rw [st.size]; exact hs
          clear hs
          have hs := hz
          refine c_true hb ?_
          refine c_region ?_
          refine l_mv (v := (.slice (some ⟨g, 0, none⟩) n cap)) (wanted_rd rfl) (run_move (.tmp 0) rfl ((st.ev 0 (by decide)).trans p0) _) ?_
          show LstI _ _ _ _ (Act.put _ (some 200) _) _
          refine l_mv (v := (.int .i64 ((a : Int)))) (wanted_rd rfl) (run_move (.tmp 1) rfl ((ev_other _ _ (by decide)).trans ((st.ev 1 (by decide)).trans p1)) _) ?_
          show LstI _ _ _ _ (Act.put _ (some 201) _) _
          refine l_mv (v := (.int .i64 ((s : Int)))) (wanted_rd rfl) (run_move (.tmp 20) rfl ((ev_other _ _ (by decide)).trans ((ev_other _ _ (by decide)).trans ((st.ev 20 (by decide)).trans p20))) _) ?_
          show LstI _ _ _ _ (Act.put _ (some 202) _) _
          refine l_mv (v := (.int .i64 ((c : Int)))) (wanted_rd rfl) (run_move (.tmp 18) rfl ((ev_other _ _ (by decide)).trans ((ev_other _ _ (by decide)).trans ((ev_other _ _ (by decide)).trans ((st.ev 18 (by decide)).trans p18)))) _) ?_
          show LstI _ _ _ _ (Act.put _ (some 203) _) _
          refine l_mv (v := (.func (.func 26) #[] #[])) (wanted_rd rfl) (run_move (.tmp 4) rfl ((ev_other _ _ (by decide)).trans ((ev_other _ _ (by decide)).trans ((ev_other _ _ (by decide)).trans ((ev_other _ _ (by decide)).trans ((st.ev 4 (by decide)).trans p4))))) _) ?_
          show LstI _ _ _ _ (Act.put _ (some 204) _) _
          refine l_do (wanted_rd rfl) (fun K hK => ?_)
          refine wp_call5 _ 33 (.tmp 200) (.tmp 201) (.tmp 202) (.tmp 203) (.tmp 204) _ rfl ((ev_other _ _ (by decide)).trans ((ev_other _ _ (by decide)).trans ((ev_other _ _ (by decide)).trans ((ev_other _ _ (by decide)).trans (ev_same _ _ _ (by omega)))))) ((ev_other _ _ (by decide)).trans ((ev_other _ _ (by decide)).trans ((ev_other _ _ (by decide)).trans (ev_same _ _ _ (by simp only [sz_put]; omega))))) ((ev_other _ _ (by decide)).trans ((ev_other _ _ (by decide)).trans (ev_same _ _ _ (by simp only [sz_put]; omega)))) ((ev_other _ _ (by decide)).trans (ev_same _ _ _ (by simp only [sz_put]; omega))) (ev_same _ _ _ (by simp only [sz_put]; omega)) (by go_simp) hcall ?_
          rintro e w4 ⟨rfl, e4, y4, t4, m4, k4⟩
          refine ⟨_, rfl, ?_⟩
          refine hK _ _ ?_
          clear hK K
          show LstI _ _ _ _ (Act.put _ (some 205) _) _
          exact l_end ⟨rfl, ((((((st.put 200 _ rfl).put 201 _ rfl).put 202 _ rfl).put 203 _ rfl).put 204 _ rfl).put 205 _ rfl), e4, y4, t4, m4, hK1.trans k4 (Or.inl rfl)⟩
      ·
        refine c_seq (fun a2 w9 => Stay [0, 1, 2, 3, 4, 18, 20, 24] A1 a2 ∧ a2.eval (.tmp 199) = .bool false ∧ w9 = w1) ?_ ?_
        · refine c_region ?_
          refine l_mv (v := (.int .i64 ((a : Int)))) (wanted_rd rfl) (run_move (.tmp 1) rfl p1 _) ?_
          show LstI _ _ _ _ (Act.put _ (some 192) _) _
          refine l_mv (v := (.int .i64 ((s : Int)))) (wanted_rd rfl) (run_move (.tmp 20) rfl ((ev_other _ _ (by decide)).trans p20) _) ?_
          show LstI _ _ _ _ (Act.put _ (some 193) _) _
          refine l_mv (v := (.bool true)) (wanted_rd rfl) (run_ltP (.tmp 192) (.tmp 193) rfl ((ev_other _ _ (by decide)).trans (ev_same _ _ _ (by omega))) (ev_same _ _ _ (by simp only [sz_put]; omega)) (decide_eq_true (by omega)) _) ?_
          show LstI _ _ _ _ (Act.put _ (some 194) _) _
          refine l_mv (v := (.bool true)) (wanted_rd rfl) (run_move (.tmp 194) rfl (ev_same _ _ _ (by simp only [sz_put]; omega)) _) ?_
          show LstI _ _ _ _ (Act.put _ (some 195) _) _
          refine l_mv (v := (.int .i64 ((s : Int)))) (wanted_g (j := 3) rfl rfl rfl (ev_same _ _ _ (by simp only [sz_put]; omega))) (run_move (.tmp 20) rfl ((ev_other _ _ (by decide)).trans ((ev_other _ _ (by decide)).trans ((ev_other _ _ (by decide)).trans ((ev_other _ _ (by decide)).trans p20)))) _) ?_
          show LstI _ _ _ _ (Act.put _ (some 196) _) _
          refine l_mv (v := (.int .i64 ((c : Int)))) (wanted_g (j := 3) rfl rfl rfl ((ev_other _ _ (by decide)).trans (ev_same _ _ _ (by simp only [sz_put]; omega)))) (run_move (.tmp 18) rfl ((ev_other _ _ (by decide)).trans ((ev_other _ _ (by decide)).trans ((ev_other _ _ (by decide)).trans ((ev_other _ _ (by decide)).trans ((ev_other _ _ (by decide)).trans p18))))) _) ?_
          show LstI _ _ _ _ (Act.put _ (some 197) _) _
          refine l_mv (v := (.bool false)) (wanted_g (j := 3) rfl rfl rfl ((ev_other _ _ (by decide)).trans ((ev_other _ _ (by decide)).trans (ev_same _ _ _ (by simp only [sz_put]; omega))))) (run_ltP (.tmp 196) (.tmp 197) rfl ((ev_other _ _ (by decide)).trans (ev_same _ _ _ (by simp only [sz_put]; omega))) (ev_same _ _ _ (by simp only [sz_put]; omega)) (decide_eq_false (by omega)) _) ?_
          show LstI _ _ _ _ (Act.put _ (some 198) _) _
          refine l_mv (v := (.bool false)) (wanted_rd rfl) (run_pickT' (.tmp 195) (.tmp 198) (.const (.bool false)) rfl ((ev_other _ _ (by decide)).trans ((ev_other _ _ (by decide)).trans ((ev_other _ _ (by decide)).trans (ev_same _ _ _ (by simp only [sz_put]; omega))))) (ev_same _ _ _ (by simp only [sz_put]; omega)) _) ?_
          show LstI _ _ _ _ (Act.put _ (some 199) _) _
          exact l_end ⟨rfl, (((((((((Stay.refl _ _).put 192 _ rfl).put 193 _ rfl).put 194 _ rfl).put 195 _ rfl).put 196 _ rfl).put 197 _ rfl).put 198 _ rfl).put 199 _ rfl), (ev_same _ _ _ (by simp only [sz_put]; omega)), rfl⟩
        · rintro A9 w9 ⟨st, hb, rfl⟩
          refine c_false hb ?_
          exact c_skip ⟨rfl, st, rotD d s m E, Same.refl _ _ _, ml.one_l (by omega), hS1, hK1⟩
    ·
      refine c_seq (fun a2 w9 => Stay [0, 1, 2, 3, 4, 18, 20, 24] A1 a2 ∧ a2.eval (.tmp 199) = .bool false ∧ w9 = w1) ?_ ?_
      · refine c_region ?_
        refine l_mv (v := (.int .i64 ((a : Int)))) (wanted_rd rfl) (run_move (.tmp 1) rfl p1 _) ?_
        show LstI _ _ _ _ (Act.put _ (some 192) _) _
        refine l_mv (v := (.int .i64 ((s : Int)))) (wanted_rd rfl) (run_move (.tmp 20) rfl ((ev_other _ _ (by decide)).trans p20) _) ?_
        show LstI _ _ _ _ (Act.put _ (some 193) _) _
        refine l_mv (v := (.bool false)) (wanted_rd rfl) (run_ltP (.tmp 192) (.tmp 193) rfl ((ev_other _ _ (by decide)).trans (ev_same _ _ _ (by omega))) (ev_same _ _ _ (by simp only [sz_put]; omega)) (decide_eq_false (by omega)) _) ?_
        show LstI _ _ _ _ (Act.put _ (some 194) _) _
        refine l_mv (v := (.bool false)) (wanted_rd rfl) (run_move (.tmp 194) rfl (ev_same _ _ _ (by simp only [sz_put]; omega)) _) ?_
        show LstI _ _ _ _ (Act.put _ (some 195) _) _
        refine l_skip (wanted_n (j := 3) rfl rfl rfl (ev_same _ _ _ (by simp only [sz_put]; omega)) (by decide)) ?_
        show LstI _ _ _ _ (Act.put _ (some 196) _) _
        refine l_skip (wanted_n (j := 3) rfl rfl rfl ((ev_other _ _ (by decide)).trans (ev_same _ _ _ (by simp only [sz_put]; omega))) (by decide)) ?_
        show LstI _ _ _ _ (Act.put _ (some 197) _) _
        refine l_skip (wanted_n (j := 3) rfl rfl rfl ((ev_other _ _ (by decide)).trans ((ev_other _ _ (by decide)).trans (ev_same _ _ _ (by simp only [sz_put]; omega)))) (by decide)) ?_
        show LstI _ _ _ _ (Act.put _ (some 198) _) _
        refine l_mv (v := (.bool false)) (wanted_rd rfl) (run_pickF (.tmp 195) (.tmp 198) (.const (.bool false)) rfl ((ev_other _ _ (by decide)).trans ((ev_other _ _ (by decide)).trans ((ev_other _ _ (by decide)).trans (ev_same _ _ _ (by simp only [sz_put]; omega))))) rfl _) ?_
        show LstI _ _ _ _ (Act.put _ (some 199) _) _
        exact l_end ⟨rfl, (((((((((Stay.refl _ _).put 192 _ rfl).put 193 _ rfl).put 194 _ rfl).put 195 _ rfl).put 196 _ rfl).put 197 _ rfl).put 198 _ rfl).put 199 _ rfl), (ev_same _ _ _ (by simp only [sz_put]; omega)), rfl⟩
      · rintro A9 w9 ⟨st, hb, rfl⟩
        refine c_false hb ?_
        exact c_skip ⟨rfl, st, rotD d s m E, Same.refl _ _ _, ml.one_l (by omega), hS1, hK1⟩
  rintro A2 w2 ⟨st2, e, y2, t2, hS2, hK2⟩
  have r0 := (st2.ev 0 (by decide)).trans p0
  have r1 := (st2.ev 1 (by decide)).trans p1
  have r2 := (st2.ev 2 (by decide)).trans p2
  have r3 := (st2.ev 3 (by decide)).trans p3
  have r4 := (st2.ev 4 (by decide)).trans p4
  have r18 := (st2.ev 18 (by decide)).trans p18
  have r20 := (st2.ev 20 (by decide)).trans p20
  have r24 := (st2.ev 24 (by decide)).trans p24
  have hsr : 220 ≤ A2.tmps.size := by rw [st2.size]; exact hs
  clear hs
  have hs := hsr
  have fin : ∀ f, Same c b e f → SoT (TQ fun y => (F y).p) f c b → Same a b d f ∧ SoT (TQ fun y => (F y).p) f a b := fun f f1 f2 => by
    have q := mg_both (by omega) (by omega) y2 f1 t2 f2 mx
    exact ⟨((same_rot s3 E3).wide s1 E2).trans q.1, q.2⟩
  have mr2 := mr.same y2 (Or.inr (Nat.le_refl _)) ⟨E1, E2⟩
  conv => arg 2; whnf
  by_cases q1 : c < E
  · by_cases q2 : E < b
    · have hcall := IH e c E b w2 (by omega) hS2 mr2 q1 q2 h3
      refine c_seq (fun a9 w9 => Stay [0, 1, 2, 3, 4, 18, 20, 24] A2 a9 ∧ a9.eval (.tmp 213) = .bool true ∧ w2 = w9) ?_ ?_
      · refine c_region ?_
        refine l_mv (v := (.int .i64 ((c : Int)))) (wanted_rd rfl) (run_move (.tmp 18) rfl r18 _) ?_
        show LstI _ _ _ _ (Act.put _ (some 206) _) _
        refine l_mv (v := (.int .i64 ((E : Int)))) (wanted_rd rfl) (run_move (.tmp 24) rfl ((ev_other _ _ (by decide)).trans r24) _) ?_
        show LstI _ _ _ _ (Act.put _ (some 207) _) _
        refine l_mv (v := (.bool true)) (wanted_rd rfl) (run_ltP (.tmp 206) (.tmp 207) rfl ((ev_other _ _ (by decide)).trans (ev_same _ _ _ (by omega))) (ev_same _ _ _ (by simp only [sz_put]; omega)) (decide_eq_true (by omega)) _) ?_
        show LstI _ _ _ _ (Act.put _ (some 208) _) _
        refine l_mv (v := (.bool true)) (wanted_rd rfl) (run_move (.tmp 208) rfl (ev_same _ _ _ (by simp only [sz_put]; omega)) _) ?_
        show LstI _ _ _ _ (Act.put _ (some 209) _) _
        refine l_mv (v := (.int .i64 ((E : Int)))) (wanted_g (j := 3) rfl rfl rfl (ev_same _ _ _ (by simp only [sz_put]; omega))) (run_move (.tmp 24) rfl ((ev_other _ _ (by decide)).trans ((ev_other _ _ (by decide)).trans ((ev_other _ _ (by decide)).trans ((ev_other _ _ (by decide)).trans r24)))) _) ?_
        show LstI _ _ _ _ (Act.put _ (some 210) _) _
        refine l_mv (v := (.int .i64 ((b : Int)))) (wanted_g (j := 3) rfl rfl rfl ((ev_other _ _ (by decide)).trans (ev_same _ _ _ (by simp only [sz_put]; omega)))) (run_move (.tmp 3) rfl ((ev_other _ _ (by decide)).trans ((ev_other _ _ (by decide)).trans ((ev_other _ _ (by decide)).trans ((ev_other _ _ (by decide)).trans ((ev_other _ _ (by decide)).trans r3))))) _) ?_
        show LstI _ _ _ _ (Act.put _ (some 211) _) _
        refine l_mv (v := (.bool true)) (wanted_g (j := 3) rfl rfl rfl ((ev_other _ _ (by decide)).trans ((ev_other _ _ (by decide)).trans (ev_same _ _ _ (by simp only [sz_put]; omega))))) (run_ltP (.tmp 210) (.tmp 211) rfl ((ev_other _ _ (by decide)).trans (ev_same _ _ _ (by simp only [sz_put]; omega))) (ev_same _ _ _ (by simp only [sz_put]; omega)) (decide_eq_true (by omega)) _) ?_
        show LstI _ _ _ _ (Act.put _ (some 212) _) _
        refine l_mv (v := (.bool true)) (wanted_rd rfl) (run_pickT' (.tmp 209) (.tmp 212) (.const (.bool false)) rfl ((ev_other _ _ (by decide)).trans ((ev_other _ _ (by decide)).trans ((ev_other _ _ (by decide)).trans (ev_same _ _ _ (by simp only [sz_put]; omega))))) (ev_same _ _ _ (by simp only [sz_put]; omega)) _) ?_
        show LstI _ _ _ _ (Act.put _ (some 213) _) _
        exact l_end ⟨rfl, (((((((((Stay.refl _ _).put 206 _ rfl).put 207 _ rfl).put 208 _ rfl).put 209 _ rfl).put 210 _ rfl).put 211 _ rfl).put 212 _ rfl).put 213 _ rfl), (ev_same _ _ _ (by simp only [sz_put]; omega)), rfl⟩
      · rintro A9 w9 ⟨st, hb, rfl⟩
        have hz : 220 ≤ A9.tmps.size := by rw [st.size]; exact hs
        clear hs
        have hs := hz
        refine c_true hb ?_
        refine c_region ?_
        refine l_mv (v := (.slice (some ⟨g, 0, none⟩) n cap)) (wanted_rd rfl) (run_move (.tmp 0) rfl ((st.ev 0 (by decide)).trans r0) _) ?_
        show LstI _ _ _ _ (Act.put _ (some 214) _) _
        refine l_mv (v := (.int .i64 ((c : Int)))) (wanted_rd rfl) (run_move (.tmp 18) rfl ((ev_other _ _ (by decide)).trans ((st.ev 18 (by decide)).trans r18)) _) ?_
        show LstI _ _ _ _ (Act.put _ (some 215) _) _
        refine l_mv (v := (.int .i64 ((E : Int)))) (wanted_rd rfl) (run_move (.tmp 24) rfl ((ev_other _ _ (by decide)).trans ((ev_other _ _ (by decide)).trans ((st.ev 24 (by decide)).trans r24))) _) ?_
        show LstI _ _ _ _ (Act.put _ (some 216) _) _
        refine l_mv (v := (.int .i64 ((b : Int)))) (wanted_rd rfl) (run_move (.tmp 3) rfl ((ev_other _ _ (by decide)).trans ((ev_other _ _ (by decide)).trans ((ev_other _ _ (by decide)).trans ((st.ev 3 (by decide)).trans r3)))) _) ?_
        show LstI _ _ _ _ (Act.put _ (some 217) _) _
        refine l_mv (v := (.func (.func 26) #[] #[])) (wanted_rd rfl) (run_move (.tmp 4) rfl ((ev_other _ _ (by decide)).trans ((ev_other _ _ (by decide)).trans ((ev_other _ _ (by decide)).trans ((ev_other _ _ (by decide)).trans ((st.ev 4 (by decide)).trans r4))))) _) ?_
        show LstI _ _ _ _ (Act.put _ (some 218) _) _
        refine l_do (wanted_rd rfl) (fun K hK => ?_)
        refine wp_call5 _ 33 (.tmp 214) (.tmp 215) (.tmp 216) (.tmp 217) (.tmp 218) _ rfl ((ev_other _ _ (by decide)).trans ((ev_other _ _ (by decide)).trans ((ev_other _ _ (by decide)).trans ((ev_other _ _ (by decide)).trans (ev_same _ _ _ (by omega)))))) ((ev_other _ _ (by decide)).trans ((ev_other _ _ (by decide)).trans ((ev_other _ _ (by decide)).trans (ev_same _ _ _ (by simp only [sz_put]; omega))))) ((ev_other _ _ (by decide)).trans ((ev_other _ _ (by decide)).trans (ev_same _ _ _ (by simp only [sz_put]; omega)))) ((ev_other _ _ (by decide)).trans (ev_same _ _ _ (by simp only [sz_put]; omega))) (ev_same _ _ _ (by simp only [sz_put]; omega)) (by go_simp) hcall ?_
        rintro e w5 ⟨rfl, e5, y5, t5, m5, k5⟩
        refine ⟨_, rfl, ?_⟩
        refine hK _ _ ?_
        clear hK K
        show LstI _ _ _ _ (Act.put _ (some 219) _) _
        exact l_end (hQ _ _ ((((((((st.put 214 _ rfl).put 215 _ rfl).put 216 _ rfl).put 217 _ rfl).put 218 _ rfl).put 219 _ rfl)).defers.trans (st2.defers.trans st1.defers)) ⟨e5, (fin _ y5 t5).1, (fin _ y5 t5).2, m5, hK2.trans k5 (Or.inl rfl)⟩)
    ·
      refine c_seq (fun a9 w9 => Stay [0, 1, 2, 3, 4, 18, 20, 24] A2 a9 ∧ a9.eval (.tmp 213) = .bool false ∧ w2 = w9) ?_ ?_
      · refine c_region ?_
        refine l_mv (v := (.int .i64 ((c : Int)))) (wanted_rd rfl) (run_move (.tmp 18) rfl r18 _) ?_
        show LstI _ _ _ _ (Act.put _ (some 206) _) _
        refine l_mv (v := (.int .i64 ((E : Int)))) (wanted_rd rfl) (run_move (.tmp 24) rfl ((ev_other _ _ (by decide)).trans r24) _) ?_
        show LstI _ _ _ _ (Act.put _ (some 207) _) _
        refine l_mv (v := (.bool true)) (wanted_rd rfl) (run_ltP (.tmp 206) (.tmp 207) rfl ((ev_other _ _ (by decide)).trans (ev_same _ _ _ (by omega))) (ev_same _ _ _ (by simp only [sz_put]; omega)) (decide_eq_true (by omega)) _) ?_
        show LstI _ _ _ _ (Act.put _ (some 208) _) _
        refine l_mv (v := (.bool true)) (wanted_rd rfl) (run_move (.tmp 208) rfl (ev_same _ _ _ (by simp only [sz_put]; omega)) _) ?_
        show LstI _ _ _ _ (Act.put _ (some 209) _) _
        refine l_mv (v := (.int .i64 ((E : Int)))) (wanted_g (j := 3) rfl rfl rfl (ev_same _ _ _ (by simp only [sz_put]; omega))) (run_move (.tmp 24) rfl ((ev_other _ _ (by decide)).trans ((ev_other _ _ (by decide)).trans ((ev_other _ _ (by decide)).trans ((ev_other _ _ (by decide)).trans r24)))) _) ?_
        show LstI _ _ _ _ (Act.put _ (some 210) _) _
        refine l_mv (v := (.int .i64 ((b : Int)))) (wanted_g (j := 3) rfl rfl rfl ((ev_other _ _ (by decide)).trans (ev_same _ _ _ (by simp only [sz_put]; omega)))) (run_move (.tmp 3) rfl ((ev_other _ _ (by decide)).trans ((ev_other _ _ (by decide)).trans ((ev_other _ _ (by decide)).trans ((ev_other _ _ (by decide)).trans ((ev_other _ _ (by decide)).trans r3))))) _) ?_
        show LstI _ _ _ _ (Act.put _ (some 211) _) _
        refine l_mv (v := (.bool false)) (wanted_g (j := 3) rfl rfl rfl ((ev_other _ _ (by decide)).trans ((ev_other _ _ (by decide)).trans (ev_same _ _ _ (by simp only [sz_put]; omega))))) (run_ltP (.tmp 210) (.tmp 211) rfl ((ev_other _ _ (by decide)).trans (ev_same _ _ _ (by simp only [sz_put]; omega))) (ev_same _ _ _ (by simp only [sz_put]; omega)) (decide_eq_false (by omega)) _) ?_
        show LstI _ _ _ _ (Act.put _ (some 212) _) _
        refine l_mv (v := (.bool false)) (wanted_rd rfl) (run_pickT' (.tmp 209) (.tmp 212) (.const (.bool false)) rfl ((ev_other _ _ (by decide)).trans ((ev_other _ _ (by decide)).trans ((ev_other _ _ (by decide)).trans (ev_same _ _ _ (by simp only [sz_put]; omega))))) (ev_same _ _ _ (by simp only [sz_put]; omega)) _) ?_
        show LstI _ _ _ _ (Act.put _ (some 213) _) _
        exact l_end ⟨rfl, (((((((((Stay.refl _ _).put 206 _ rfl).put 207 _ rfl).put 208 _ rfl).put 209 _ rfl).put 210 _ rfl).put 211 _ rfl).put 212 _ rfl).put 213 _ rfl), (ev_same _ _ _ (by simp only [sz_put]; omega)), rfl⟩
      · rintro A9 w9 ⟨st, hb, rfl⟩
        refine c_false hb ?_
        exact c_skip (hQ _ _ (st.defers.trans (st2.defers.trans st1.defers)) ⟨e, (fin e (Same.refl _ _ _) (mr2.one_l (by omega))).1, (fin e (Same.refl _ _ _) (mr2.one_l (by omega))).2, hS2, hK2⟩)
  ·
    refine c_seq (fun a9 w9 => Stay [0, 1, 2, 3, 4, 18, 20, 24] A2 a9 ∧ a9.eval (.tmp 213) = .bool false ∧ w2 = w9) ?_ ?_
    · refine c_region ?_
      refine l_mv (v := (.int .i64 ((c : Int)))) (wanted_rd rfl) (run_move (.tmp 18) rfl r18 _) ?_
      show LstI _ _ _ _ (Act.put _ (some 206) _) _
      refine l_mv (v := (.int .i64 ((E : Int)))) (wanted_rd rfl) (run_move (.tmp 24) rfl ((ev_other _ _ (by decide)).trans r24) _) ?_
      show LstI _ _ _ _ (Act.put _ (some 207) _) _
      refine l_mv (v := (.bool false)) (wanted_rd rfl) (run_ltP (.tmp 206) (.tmp 207) rfl ((ev_other _ _ (by decide)).trans (ev_same _ _ _ (by omega))) (ev_same _ _ _ (by simp only [sz_put]; omega)) (decide_eq_false (by omega)) _) ?_
      show LstI _ _ _ _ (Act.put _ (some 208) _) _
      refine l_mv (v := (.bool false)) (wanted_rd rfl) (run_move (.tmp 208) rfl (ev_same _ _ _ (by simp only [sz_put]; omega)) _) ?_
      show LstI _ _ _ _ (Act.put _ (some 209) _) _
      refine l_skip (wanted_n (j := 3) rfl rfl rfl (ev_same _ _ _ (by simp only [sz_put]; omega)) (by decide)) ?_
      show LstI _ _ _ _ (Act.put _ (some 210) _) _
      refine l_skip (wanted_n (j := 3) rfl rfl rfl ((ev_other _ _ (by decide)).trans (ev_same _ _ _ (by simp only [sz_put]; omega))) (by decide)) ?_
      show LstI _ _ _ _ (Act.put _ (some 211) _) _
      refine l_skip (wanted_n (j := 3) rfl rfl rfl ((ev_other _ _ (by decide)).trans ((ev_other _ _ (by decide)).trans (ev_same _ _ _ (by simp only [sz_put]; omega)))) (by decide)) ?_
      show LstI _ _ _ _ (Act.put _ (some 212) _) _
      refine l_mv (v := (.bool false)) (wanted_rd rfl) (run_pickF (.tmp 209) (.tmp 212) (.const (.bool false)) rfl ((ev_other _ _ (by decide)).trans ((ev_other _ _ (by decide)).trans ((ev_other _ _ (by decide)).trans (ev_same _ _ _ (by simp only [sz_put]; omega))))) rfl _) ?_
      show LstI _ _ _ _ (Act.put _ (some 213) _) _
      exact l_end ⟨rfl, (((((((((Stay.refl _ _).put 206 _ rfl).put 207 _ rfl).put 208 _ rfl).put 209 _ rfl).put 210 _ rfl).put 211 _ rfl).put 212 _ rfl).put 213 _ rfl), (ev_same _ _ _ (by simp only [sz_put]; omega)), rfl⟩
    · rintro A9 w9 ⟨st, hb, rfl⟩
      refine c_false hb ?_
      exact c_skip (hQ _ _ (st.defers.trans (st2.defers.trans st1.defers)) ⟨e, (fin e (Same.refl _ _ _) (mr2.one_l (by omega))).1, (fin e (Same.refl _ _ _) (mr2.one_l (by omega))).2, hS2, hK2⟩)
set_option maxHeartbeats 4000000 in
set_option maxRecDepth 1000000 in
theorem symBig_any (g cap n : Nat) (F : Nat → Lp) (d : Nat → Nat) (a m b : Nat) (w : World) (h : SoR w g cap n F d) (hm : Mg (TQ fun y => (F y).p) d a m b) (h3 : b ≤ n) (hn : n ≤ 2513169434843) (ha : a + 1 < m) (hb : m + 1 < b)
    (IH : ∀ (d : Nat → Nat) (a' m' b' : Nat) (w : World), b' - a' < b - a → SoR w g cap n F d → Mg (TQ fun y => (F y).p) d a' m' b' → a' < m' → m' < b' → b' ≤ n → Calls Try.prog 33 #[.slice (some ⟨g, 0, none⟩) n cap, .int .i64 (a' : Int), .int .i64 (m' : Int), .int .i64 (b' : Int), (.func (.func 26) #[] #[])] w fun e w' => e = .returned (.tuple #[]) ∧ ∃ e : Nat → Nat, Same a' b' d e ∧ SoT (TQ fun y => (F y).p) e a' b' ∧ SoR w' g cap n F e ∧ Kept g w w') :
    Calls Try.prog 33 #[.slice (some ⟨g, 0, none⟩) n cap, .int .i64 (a : Int), .int .i64 (m : Int), .int .i64 (b : Int), (.func (.func 26) #[] #[])] w fun e w' => e = .returned (.tuple #[]) ∧ ∃ e : Nat → Nat, Same a b d e ∧ SoT (TQ fun y => (F y).p) e a b ∧ SoR w' g cap n F e ∧ Kept g w w' := by
  have HH := hide h
  have HM := hide hm
  clear h hm
  have HIH := hide IH
  clear IH
  obtain ⟨c, c1, c2⟩ : ∃ c : Nat, 2 * c ≤ a + b ∧ a + b ≤ 2 * c + 1 := ⟨(a + b) / 2, by omega, by omega⟩
  have c3 : ((a : Int) + (b : Int)) / 2 = (c : Int) := by omega
  have em : ¬ (m : Int) - (a : Int) = 1 := by omega
  have emb : ((m : Int) - (a : Int) == 1) = false := beq_eq_false_iff_ne.2 em
  have eb : ¬ (b : Int) - (m : Int) = 1 := by omega
  have ebb : ((b : Int) - (m : Int) == 1) = false := beq_eq_false_iff_ne.2 eb
  go_enter Try.func33, Try.ntmps33
  go_upto_if 140 with fail
  go_cut [20, 21] from 25 (fun s t wx => ∃ lo hi : Nat, s = .int .i64 (lo : Int) ∧ t = .int .i64 (hi : Int) ∧ lo ≤ hi ∧ hi ≤ b ∧ Hid (Lies a m b c lo hi) ∧ w = wx)
  case first =>
    by_cases hmid : c < m
    · have hz : (c : Int) < (m : Int) := by omega
      have e1 : (c : Int) + (m : Int) - (b : Int) = ((c + m - b : Nat) : Int) := by omega
      go_wp2_with fail
      go_meet
      case rel => exact ⟨c + m - b, c, by first | rfl | rw [e1], rfl, by omega, by omega, hide ⟨Or.inr ⟨hmid, by omega, rfl⟩, by omega, by omega, c1, c2⟩, rfl⟩
    · have hz : ¬ (c : Int) < (m : Int) := by omega
      go_wp2_with fail
      go_meet
      case rel => exact ⟨a, m, rfl, rfl, by omega, by omega, hide ⟨Or.inl ⟨by omega, rfl, rfl⟩, by omega, by omega, c1, c2⟩, rfl⟩
  case rest =>
    obtain ⟨lo, hi, rfl, rfl, hlh, hhb, HY, rfl⟩ := hcut
    go_wp2_with fail
    go_loopg [20, 21] (hi - lo) (fun q s20 s21 wr => ∃ s r : Nat, s20 = .int .i64 (s : Int) ∧ s21 = .int .i64 (r : Int) ∧ s ≤ r ∧ r ≤ b ∧ r - s ≤ q ∧ Hid (SoR wr g cap n F d) ∧ Hid (Sch (TQ fun y => (F y).p) d (c + m - 1) lo hi s r) ∧ Hid (Kept g w wr))
    case atStart => exact ⟨lo, hi, rfl, rfl, hlh, hhb, by omega, HH, hide (Sch.start hlh _), hide (Kept.of_below (Below.refl _ _))⟩
    case round =>
      clear HH
      obtain ⟨s, r, rfl, rfl, hsr, hrb, hq, HS, HI, KS⟩ := hrel
      by_cases hlt : s < r
      · have hltz : (s : Int) < (r : Int) := by omega
        obtain ⟨x, x1, x2⟩ : ∃ x : Nat, 2 * x ≤ s + r ∧ s + r ≤ 2 * x + 1 := ⟨(s + r) / 2, by omega, by omega⟩
        have x3 : ((s : Int) + (r : Int)) / 2 = (x : Int) := by omega
        have x4 : x + 1 ≤ c + m ∧ c + m - 1 - x < n := by have := (unhide HI).h1; have := (unhide HI).h3; have := (unhide HY).h; omega
        by_cases hl : cmpP (F (d (c + m - 1 - x))).p (F (d (x))).p < 0
        · have HL := hide hl
          clear hl
          go_wp2_with fail
          refine wp_leaves (fun a0 a' w' => SoR w' g cap n F (d) ∧ Kept g wr w' ∧ a' = ((((((((((((((a0.put (some 158) (.func (.func 26) #[] #[])).put (some 159) (.slice (some ⟨g, 0, none⟩) n cap)).put (some 160) (.int .i64 ((c : Int) + (m : Int) - 1))).put (some 161) (.int .i64 ((x : Int)))).put (some 162) (.int .i64 ((c : Int) + (m : Int) - 1 - (x : Int)))).put (some 163) (.pointer (some ⟨g, (c + m - 1 - x) * 5, none⟩))).put (some 164) (lcV (F (d (c + m - 1 - x))))).put (some 165) (.slice (some ⟨g, 0, none⟩) n cap)).put (some 166) (.int .i64 ((x : Int)))).put (some 167) (.pointer (some ⟨g, (x) * 5, none⟩))).put (some 168) (lcV (F (d (x))))).put (some 169) (.int .i64 (cmpP (F (d (c + m - 1 - x))).p (F (d (x))).p))).put (some 170) (.bool true)).put (some 171) (.bool false))) ?reg ?rest
          case reg =>
            intro A eA
            have b0 : A.eval (.tmp 0) = (.slice (some ⟨g, 0, none⟩) n cap) := by rw [eA]; rfl
            have b4 : A.eval (.tmp 4) = (.func (.func 26) #[] #[]) := by rw [eA]; rfl
            have b22 : A.eval (.tmp 22) = (.int .i64 ((c : Int) + (m : Int) - 1)) := by rw [eA]; rfl
            have b23 : A.eval (.tmp 23) = (.int .i64 ((x : Int))) := by rw [eA]; rfl
            have hs : 220 ≤ A.tmps.size := by rw [eA]; exact of_decide_eq_true rfl
            clear eA
            have hS : SoR wr.drew g cap n F (d) := unhide HS
            refine region_J (S := fun W => SoR W g cap n F (d)) (.mv 0 (.mv 1 (.mv 2 (.mv 3 (.mv 4 (.mv 5 (.rd 6 (.mv 7 (.mv 8 (.mv 9 (.rd 10 (.go 11 (.mv 12 (.mv 13 .fin)))))))))))))) [] (by kernel_rfl) (by kernel_rfl) ?_
            refine sJ_mv (v := (.func (.func 26) #[] #[])) rfl (fun _ _ _ h => absurd h.1 (fun e => nomatch e)) (wanted_rd rfl) (fun wx => run_move (.tmp 4) rfl b4 wx) ?_
            show SeqJ _ _ _ _ _ _ (Act.put _ (some 158) _) _
            refine sJ_mv (v := (.slice (some ⟨g, 0, none⟩) n cap)) rfl (fun _ _ _ h => absurd h.1 (fun e => nomatch e)) (wanted_rd rfl) (fun wx => run_move (.tmp 0) rfl ((ev_other _ _ (by decide)).trans b0) wx) ?_
            show SeqJ _ _ _ _ _ _ (Act.put _ (some 159) _) _
            refine sJ_mv (v := (.int .i64 ((c : Int) + (m : Int) - 1))) rfl (fun _ _ _ h => absurd h.1 (fun e => nomatch e)) (wanted_rd rfl) (fun wx => run_move (.tmp 22) rfl ((ev_other _ _ (by decide)).trans ((ev_other _ _ (by decide)).trans b22)) wx) ?_
            show SeqJ _ _ _ _ _ _ (Act.put _ (some 160) _) _
            refine sJ_mv (v := (.int .i64 ((x : Int)))) rfl (fun _ _ _ h => absurd h.1 (fun e => nomatch e)) (wanted_rd rfl) (fun wx => run_move (.tmp 23) rfl ((ev_other _ _ (by decide)).trans ((ev_other _ _ (by decide)).trans ((ev_other _ _ (by decide)).trans b23))) wx) ?_
            show SeqJ _ _ _ _ _ _ (Act.put _ (some 161) _) _
            refine sJ_mv (v := (.int .i64 ((c : Int) + (m : Int) - 1 - (x : Int)))) rfl (fun _ _ _ h => absurd h.1 (fun e => nomatch e)) (wanted_rd rfl) (fun wx => run_subP (.tmp 160) (.tmp 161) rfl ((ev_other _ _ (by decide)).trans (ev_same _ _ _ (by simp only [sz_put]; omega))) (ev_same _ _ _ (by simp only [sz_put]; omega)) (by omega) (by omega) wx) ?_
            show SeqJ _ _ _ _ _ _ (Act.put _ (some 162) _) _
            refine sJ_mv (v := (.pointer (some ⟨g, (c + m - 1 - x) * 5, none⟩))) rfl (fun _ _ _ h => absurd h.1 (fun e => nomatch e)) (wanted_rd rfl) (fun wx => run_ixR (i := c + m - 1 - x) (.tmp 159) (.tmp 162) rfl ((ev_other _ _ (by decide)).trans ((ev_other _ _ (by decide)).trans ((ev_other _ _ (by decide)).trans (ev_same _ _ _ (by simp only [sz_put]; omega))))) (ev_same _ _ _ (by simp only [sz_put]; omega)) (by omega) (by omega) wx) ?_
            show SeqJ _ _ _ _ _ _ (Act.put _ (some 163) _) _
            refine sJ_read (v := (lcV (F (d (c + m - 1 - x))))) rfl (fun _ _ _ h => absurd h.1 (fun e => nomatch e)) (wanted_rd rfl) hS (fun wx hx => run_lodR (.tmp 163) rfl (ev_same _ _ _ (by simp only [sz_put]; omega)) hx (by omega)) ?_
            show SeqJ _ _ _ _ _ _ (Act.put _ (some 164) _) _
            refine sJ_mv (v := (.slice (some ⟨g, 0, none⟩) n cap)) rfl (fun _ _ _ h => absurd h.1 (fun e => nomatch e)) (wanted_rd rfl) (fun wx => run_move (.tmp 0) rfl ((ev_other _ _ (by decide)).trans ((ev_other _ _ (by decide)).trans ((ev_other _ _ (by decide)).trans ((ev_other _ _ (by decide)).trans ((ev_other _ _ (by decide)).trans ((ev_other _ _ (by decide)).trans ((ev_other _ _ (by decide)).trans b0))))))) wx) ?_
            show SeqJ _ _ _ _ _ _ (Act.put _ (some 165) _) _
            refine sJ_mv (v := (.int .i64 ((x : Int)))) rfl (fun _ _ _ h => absurd h.1 (fun e => nomatch e)) (wanted_rd rfl) (fun wx => run_move (.tmp 23) rfl ((ev_other _ _ (by decide)).trans ((ev_other _ _ (by decide)).trans ((ev_other _ _ (by decide)).trans ((ev_other _ _ (by decide)).trans ((ev_other _ _ (by decide)).trans ((ev_other _ _ (by decide)).trans ((ev_other _ _ (by decide)).trans ((ev_other _ _ (by decide)).trans b23)))))))) wx) ?_
            show SeqJ _ _ _ _ _ _ (Act.put _ (some 166) _) _
            refine sJ_mv (v := (.pointer (some ⟨g, (x) * 5, none⟩))) rfl (fun _ _ _ h => absurd h.1 (fun e => nomatch e)) (wanted_rd rfl) (fun wx => run_ixR (i := x) (.tmp 165) (.tmp 166) rfl ((ev_other _ _ (by decide)).trans (ev_same _ _ _ (by simp only [sz_put]; omega))) (ev_same _ _ _ (by simp only [sz_put]; omega)) (by omega) (by omega) wx) ?_
            show SeqJ _ _ _ _ _ _ (Act.put _ (some 167) _) _
            refine sJ_read (v := (lcV (F (d (x))))) rfl (fun _ _ _ h => absurd h.1 (fun e => nomatch e)) (wanted_rd rfl) hS (fun wx hx => run_lodR (.tmp 167) rfl (ev_same _ _ _ (by simp only [sz_put]; omega)) hx (by omega)) ?_
            show SeqJ _ _ _ _ _ _ (Act.put _ (some 168) _) _
            refine sJ_do rfl (wanted_rd rfl) (fun K hK => ?_)
            refine wp_callV _ (.tmp 158) (.tmp 164) (.tmp 168) _ rfl ((ev_other _ _ (by decide)).trans ((ev_other _ _ (by decide)).trans ((ev_other _ _ (by decide)).trans ((ev_other _ _ (by decide)).trans ((ev_other _ _ (by decide)).trans ((ev_other _ _ (by decide)).trans ((ev_other _ _ (by decide)).trans ((ev_other _ _ (by decide)).trans ((ev_other _ _ (by decide)).trans ((ev_other _ _ (by decide)).trans (ev_same _ _ _ (by omega)))))))))))) ((ev_other _ _ (by decide)).trans ((ev_other _ _ (by decide)).trans ((ev_other _ _ (by decide)).trans ((ev_other _ _ (by decide)).trans (ev_same _ _ _ (by simp only [sz_put]; omega)))))) (ev_same _ _ _ (by simp only [sz_put]; omega)) (busCmp_any (F (d (c + m - 1 - x))).p (F (d (x))).p _ _ _ _ _ _ _) ?_
            rintro e w1 ⟨rfl, k1⟩
            have h1 := hS.below k1
            refine ⟨_, rfl, ?_⟩
            refine hK _ _ (fun _ _ => h1) ?_
            clear hK K
            show SeqJ _ _ _ _ _ _ (Act.put _ (some 169) _) _
            refine sJ_mv (v := (.bool true)) rfl (fun _ _ _ h => absurd h.1 (fun e => nomatch e)) (wanted_rd rfl) (fun wx => run_ltP (.tmp 169) (.const (.int .i64 0)) rfl (ev_same _ _ _ (by simp only [sz_put]; omega)) rfl (decide_eq_true (unhide HL)) wx) ?_
            show SeqJ _ _ _ _ _ _ (Act.put _ (some 170) _) _
            refine sJ_mv (v := (.bool false)) rfl (fun _ _ _ h => absurd h.1 (fun e => nomatch e)) (wanted_rd rfl) (fun wx => run_notB (.tmp 170) _ rfl (ev_same _ _ _ (by simp only [sz_put]; omega)) wx) ?_
            show SeqJ _ _ _ _ _ _ (Act.put _ (some 171) _) _
            exact sJ_end ⟨rfl, h1, Kept.of_below (show Below wr.heap.size wr w1 from (below_drew (Below.refl _ _)).trans k1), rfl⟩
          case rest =>
            rintro a' w2 ⟨m2, k2, rfl⟩
            have HS2 := hide m2
            have KS2 := hide ((unhide KS).trans k2 (Or.inl rfl))
            clear m2 k2
            go_frame
            go_wp2_with fail
            go_roundg (x - s)
            case measure => omega
            case rel => exact ⟨s, x, rfl, rfl, by omega, by omega, by omega, HS2, hide ((unhide HI).down (whole_TQ _) (unhide HY) (unhide HM) (by omega) (by omega) (tq_yes (q := fun y => (F y).p) (unhide HL))), KS2⟩
        · have HL := hide (Int.not_lt.1 hl)
          clear hl
          go_wp2_with fail
          refine wp_leaves (fun a0 a' w' => SoR w' g cap n F (d) ∧ Kept g wr w' ∧ a' = ((((((((((((((a0.put (some 158) (.func (.func 26) #[] #[])).put (some 159) (.slice (some ⟨g, 0, none⟩) n cap)).put (some 160) (.int .i64 ((c : Int) + (m : Int) - 1))).put (some 161) (.int .i64 ((x : Int)))).put (some 162) (.int .i64 ((c : Int) + (m : Int) - 1 - (x : Int)))).put (some 163) (.pointer (some ⟨g, (c + m - 1 - x) * 5, none⟩))).put (some 164) (lcV (F (d (c + m - 1 - x))))).put (some 165) (.slice (some ⟨g, 0, none⟩) n cap)).put (some 166) (.int .i64 ((x : Int)))).put (some 167) (.pointer (some ⟨g, (x) * 5, none⟩))).put (some 168) (lcV (F (d (x))))).put (some 169) (.int .i64 (cmpP (F (d (c + m - 1 - x))).p (F (d (x))).p))).put (some 170) (.bool false)).put (some 171) (.bool true))) ?reg ?rest
          case reg =>
            intro A eA
            have b0 : A.eval (.tmp 0) = (.slice (some ⟨g, 0, none⟩) n cap) := by rw [eA]; rfl
            have b4 : A.eval (.tmp 4) = (.func (.func 26) #[] #[]) := by rw [eA]; rfl
            have b22 : A.eval (.tmp 22) = (.int .i64 ((c : Int) + (m : Int) - 1)) := by rw [eA]; rfl
            have b23 : A.eval (.tmp 23) = (.int .i64 ((x : Int))) := by rw [eA]; rfl
            have hs : 220 ≤ A.tmps.size := by rw [eA]; exact of_decide_eq_true rfl
            clear eA
            have hS : SoR wr.drew g cap n F (d) := unhide HS
            refine region_J (S := fun W => SoR W g cap n F (d)) (.mv 0 (.mv 1 (.mv 2 (.mv 3 (.mv 4 (.mv 5 (.rd 6 (.mv 7 (.mv 8 (.mv 9 (.rd 10 (.go 11 (.mv 12 (.mv 13 .fin)))))))))))))) [] (by kernel_rfl) (by kernel_rfl) ?_
            refine sJ_mv (v := (.func (.func 26) #[] #[])) rfl (fun _ _ _ h => absurd h.1 (fun e => nomatch e)) (wanted_rd rfl) (fun wx => run_move (.tmp 4) rfl b4 wx) ?_
            show SeqJ _ _ _ _ _ _ (Act.put _ (some 158) _) _
            refine sJ_mv (v := (.slice (some ⟨g, 0, none⟩) n cap)) rfl (fun _ _ _ h => absurd h.1 (fun e => nomatch e)) (wanted_rd rfl) (fun wx => run_move (.tmp 0) rfl ((ev_other _ _ (by decide)).trans b0) wx) ?_
            show SeqJ _ _ _ _ _ _ (Act.put _ (some 159) _) _
            refine sJ_mv (v := (.int .i64 ((c : Int) + (m : Int) - 1))) rfl (fun _ _ _ h => absurd h.1 (fun e => nomatch e)) (wanted_rd rfl) (fun wx => run_move (.tmp 22) rfl ((ev_other _ _ (by decide)).trans ((ev_other _ _ (by decide)).trans b22)) wx) ?_
            show SeqJ _ _ _ _ _ _ (Act.put _ (some 160) _) _
            refine sJ_mv (v := (.int .i64 ((x : Int)))) rfl (fun _ _ _ h => absurd h.1 (fun e => nomatch e)) (wanted_rd rfl) (fun wx => run_move (.tmp 23) rfl ((ev_other _ _ (by decide)).trans ((ev_other _ _ (by decide)).trans ((ev_other _ _ (by decide)).trans b23))) wx) ?_
            show SeqJ _ _ _ _ _ _ (Act.put _ (some 161) _) _
            refine sJ_mv (v := (.int .i64 ((c : Int) + (m : Int) - 1 - (x : Int)))) rfl (fun _ _ _ h => absurd h.1 (fun e => nomatch e)) (wanted_rd rfl) (fun wx => run_subP (.tmp 160) (.tmp 161) rfl ((ev_other _ _ (by decide)).trans (ev_same _ _ _ (by simp only [sz_put]; omega))) (ev_same _ _ _ (by simp only [sz_put]; omega)) (by omega) (by omega) wx) ?_
            show SeqJ _ _ _ _ _ _ (Act.put _ (some 162) _) _
            refine sJ_mv (v := (.pointer (some ⟨g, (c + m - 1 - x) * 5, none⟩))) rfl (fun _ _ _ h => absurd h.1 (fun e => nomatch e)) (wanted_rd rfl) (fun wx => run_ixR (i := c + m - 1 - x) (.tmp 159) (.tmp 162) rfl ((ev_other _ _ (by decide)).trans ((ev_other _ _ (by decide)).trans ((ev_other _ _ (by decide)).trans (ev_same _ _ _ (by simp only [sz_put]; omega))))) (ev_same _ _ _ (by simp only [sz_put]; omega)) (by omega) (by omega) wx) ?_
            show SeqJ _ _ _ _ _ _ (Act.put _ (some 163) _) _
            refine sJ_read (v := (lcV (F (d (c + m - 1 - x))))) rfl (fun _ _ _ h => absurd h.1 (fun e => nomatch e)) (wanted_rd rfl) hS (fun wx hx => run_lodR (.tmp 163) rfl (ev_same _ _ _ (by simp only [sz_put]; omega)) hx (by omega)) ?_
            show SeqJ _ _ _ _ _ _ (Act.put _ (some 164) _) _
            refine sJ_mv (v := (.slice (some ⟨g, 0, none⟩) n cap)) rfl (fun _ _ _ h => absurd h.1 (fun e => nomatch e)) (wanted_rd rfl) (fun wx => run_move (.tmp 0) rfl ((ev_other _ _ (by decide)).trans ((ev_other _ _ (by decide)).trans ((ev_other _ _ (by decide)).trans ((ev_other _ _ (by decide)).trans ((ev_other _ _ (by decide)).trans ((ev_other _ _ (by decide)).trans ((ev_other _ _ (by decide)).trans b0))))))) wx) ?_
            show SeqJ _ _ _ _ _ _ (Act.put _ (some 165) _) _
            refine sJ_mv (v := (.int .i64 ((x : Int)))) rfl (fun _ _ _ h => absurd h.1 (fun e => nomatch e)) (wanted_rd rfl) (fun wx => run_move (.tmp 23) rfl ((ev_other _ _ (by decide)).trans ((ev_other _ _ (by decide)).trans ((ev_other _ _ (by decide)).trans ((ev_other _ _ (by decide)).trans ((ev_other _ _ (by decide)).trans ((ev_other _ _ (by decide)).trans ((ev_other _ _ (by decide)).trans ((ev_other _ _ (by decide)).trans b23)))))))) wx) ?_
            show SeqJ _ _ _ _ _ _ (Act.put _ (some 166) _) _
            refine sJ_mv (v := (.pointer (some ⟨g, (x) * 5, none⟩))) rfl (fun _ _ _ h => absurd h.1 (fun e => nomatch e)) (wanted_rd rfl) (fun wx => run_ixR (i := x) (.tmp 165) (.tmp 166) rfl ((ev_other _ _ (by decide)).trans (ev_same _ _ _ (by simp only [sz_put]; omega))) (ev_same _ _ _ (by simp only [sz_put]; omega)) (by omega) (by omega) wx) ?_
            show SeqJ _ _ _ _ _ _ (Act.put _ (some 167) _) _
            refine sJ_read (v := (lcV (F (d (x))))) rfl (fun _ _ _ h => absurd h.1 (fun e => nomatch e)) (wanted_rd rfl) hS (fun wx hx => run_lodR (.tmp 167) rfl (ev_same _ _ _ (by simp only [sz_put]; omega)) hx (by omega)) ?_
            show SeqJ _ _ _ _ _ _ (Act.put _ (some 168) _) _
            refine sJ_do rfl (wanted_rd rfl) (fun K hK => ?_)
            refine wp_callV _ (.tmp 158) (.tmp 164) (.tmp 168) _ rfl ((ev_other _ _ (by decide)).trans ((ev_other _ _ (by decide)).trans ((ev_other _ _ (by decide)).trans ((ev_other _ _ (by decide)).trans ((ev_other _ _ (by decide)).trans ((ev_other _ _ (by decide)).trans ((ev_other _ _ (by decide)).trans ((ev_other _ _ (by decide)).trans ((ev_other _ _ (by decide)).trans ((ev_other _ _ (by decide)).trans (ev_same _ _ _ (by omega)))))))))))) ((ev_other _ _ (by decide)).trans ((ev_other _ _ (by decide)).trans ((ev_other _ _ (by decide)).trans ((ev_other _ _ (by decide)).trans (ev_same _ _ _ (by simp only [sz_put]; omega)))))) (ev_same _ _ _ (by simp only [sz_put]; omega)) (busCmp_any (F (d (c + m - 1 - x))).p (F (d (x))).p _ _ _ _ _ _ _) ?_
            rintro e w1 ⟨rfl, k1⟩
            have h1 := hS.below k1
            refine ⟨_, rfl, ?_⟩
            refine hK _ _ (fun _ _ => h1) ?_
            clear hK K
            show SeqJ _ _ _ _ _ _ (Act.put _ (some 169) _) _
            refine sJ_mv (v := (.bool false)) rfl (fun _ _ _ h => absurd h.1 (fun e => nomatch e)) (wanted_rd rfl) (fun wx => run_ltP (.tmp 169) (.const (.int .i64 0)) rfl (ev_same _ _ _ (by simp only [sz_put]; omega)) rfl (decide_eq_false (Int.not_lt.2 (unhide HL))) wx) ?_
            show SeqJ _ _ _ _ _ _ (Act.put _ (some 170) _) _
            refine sJ_mv (v := (.bool true)) rfl (fun _ _ _ h => absurd h.1 (fun e => nomatch e)) (wanted_rd rfl) (fun wx => run_notB (.tmp 170) _ rfl (ev_same _ _ _ (by simp only [sz_put]; omega)) wx) ?_
            show SeqJ _ _ _ _ _ _ (Act.put _ (some 171) _) _
            exact sJ_end ⟨rfl, h1, Kept.of_below (show Below wr.heap.size wr w1 from (below_drew (Below.refl _ _)).trans k1), rfl⟩
          case rest =>
            rintro a' w2 ⟨m2, k2, rfl⟩
            have HS2 := hide m2
            have KS2 := hide ((unhide KS).trans k2 (Or.inl rfl))
            clear m2 k2
            go_frame
            go_wp2_with fail
            go_roundg (r - (x + 1))
            case measure => omega
            case rel => exact ⟨x + 1, r, by go_num, rfl, by omega, by omega, by omega, HS2, hide ((unhide HI).up (whole_TQ _) (unhide HY) (unhide HM) (by omega) (by omega) (tq_no (q := fun y => (F y).p) ((unhide HM).x x (c + m - 1 - x) (by have := (unhide HI).h1; have := (unhide HY).h; omega) (by have := (unhide HI).h3; have := (unhide HY).h; omega) (by have := (unhide HI).h3; have := (unhide HY).h; omega) (by have := (unhide HI).h1; have := (unhide HY).h; omega)) (Int.not_lt.2 (unhide HL)))), KS2⟩
      · have hltz : ¬ (s : Int) < (r : Int) := by omega
        obtain rfl : s = r := by omega
        obtain ⟨E, eE⟩ : ∃ E : Nat, E + s = c + m := ⟨c + m - s, by have := (unhide HI).h1; have := (unhide HI).h3; have := (unhide HY).h; omega⟩
        have eE2 : (c : Int) + (m : Int) - (s : Int) = (E : Int) := by omega
        have X := mg_mid (whole_TQ _) (unhide HY) (unhide HM) (unhide HI) eE
        obtain ⟨⟨s1, s2, s3⟩, ⟨E1, E2, E3⟩, ml, mr, mx⟩ := X
        have ML := hide ml; have MR := hide mr; have MX := hide mx
        have EE := hide eE
        clear ml mr mx eE
        go_upto_region 38 with fail
        go_cut [24] from 25 (fun t wx => t = .int .i64 (E : Int) ∧ wr = wx)
        case first =>
          go_wp2_with fail
          go_meet
          case rel => exact ⟨rfl, rfl⟩
        case rest =>
          obtain ⟨rfl, rfl⟩ := hcut
          refine ‹∀ (a : Act) (w : World), Code.wp Try.prog _ _ a w → _› _ _ ?_
          refine symTail_any g cap n F d a m b c s E w wr (unhide HS) (unhide KS) (unhide ML) (unhide MR) (unhide MX) s1 s2 s3 E1 E2 E3 h3 hn (by omega) (unhide HIH) _ _ (by rfl) (by rfl) (by rfl) (by rfl) (by rfl) (by rfl) (by rfl) (by rfl) (by exact of_decide_eq_true rfl) ?_
          intro a' w' hd hp
          refine bodyPost_end (results_none (fn := Try.f33) rfl _ _ _) hd ?_
          exact ⟨rfl, hp⟩
theorem symMerge_any (g cap n : Nat) (F : Nat → Lp) (hn : n ≤ 2513169434843) : ∀ (N : Nat) (d : Nat → Nat) (a m b : Nat) (w : World), b - a ≤ N → SoR w g cap n F d → Mg (TQ fun y => (F y).p) d a m b → a < m → m < b → b ≤ n →
    Calls Try.prog 33 #[.slice (some ⟨g, 0, none⟩) n cap, .int .i64 (a : Int), .int .i64 (m : Int), .int .i64 (b : Int), (.func (.func 26) #[] #[])] w fun e w' => e = .returned (.tuple #[]) ∧ ∃ e : Nat → Nat, Same a b d e ∧ SoT (TQ fun y => (F y).p) e a b ∧ SoR w' g cap n F e ∧ Kept g w w' := by
  intro N
  induction N with
  | zero => intro d a m b w hN _ _ h1 h2; omega
  | succ N ih =>
    intro d a m b w hN h hm h1 h2 h3
    by_cases c1 : m ≤ a + 1
    · exact symOne_any g cap n F d a m b w h hm h1 h2 h3 hn c1
    · by_cases c2 : b ≤ m + 1
      · exact symLast_any g cap n F d a m b w h hm h2 h3 hn (by omega) c2
      · exact symBig_any g cap n F d a m b w h hm h3 hn (by omega) (by omega) (fun d' a' m' b' w' hl => ih d' a' m' b' w' (by omega))

end Go.Proofs.Ythjeedlhlkggkab
