/- Joined: NodC6, NodClo. -/
import Derived.Test.YtngmeaaglogieabNodC2
import Derived.Test.YtngmeaaglogieabNodPr4
import Derived.Test.YtngmeaaglogieabNodC5
namespace Go.Proofs.Ytngmeaaglogieab
open Go.RowKit

theorem enter_calike (x : Value) (w : World) : (callFunc 14 #[x]).run Try.prog w = .ok (.enter 14 #[x]) w := by go_simp
/-- What a pair tells, if both are heard and alike; the first such pair. -/
def pairL (n : Nd) (L : List Lm) (p q : Nat) : Option Lm := match fL n.id n.fr L (p : Int) 5 24, fL n.id n.fr L (q : Int) 5 24 with | some a, some b => if a.m.L = b.m.L then some a else none | _, _ => none
def alk (n : Nd) (L : List Lm) : Option Lm := prs.findSome? fun p => pairL n L p.1 p.2
def alkV : Option Lm → Value
  | some c => lmV c
  | none => .slice none 0 0
theorem alk_none {n : Nd} {L : List Lm} (h : ∀ p q, p < q → q < 4 → pairL n L p q = none) : alk n L = none := by
  unfold alk
  rw [List.findSome?_eq_none_iff]
  intro p hp
  unfold prs at hp
  simp only [List.mem_cons, List.not_mem_nil, or_false] at hp
  rcases hp with rfl | rfl | rfl | rfl | rfl | rfl <;> exact h _ _ (by decide) (by decide)
theorem alk_found {n : Nd} {L : List Lm} {i k : Nat} {c : Lm} (hik : i < k) (hk : k < 4) (h : pairL n L i k = some c) (hb : ∀ p q, p < q → q < 4 → (p < i ∨ (p = i ∧ q < k)) → pairL n L p q = none) : alk n L = some c := by
  unfold alk prs
  match i, k, hik, hk with
  | 0, 1, _, _ => simp only [List.findSome?, h]
  | 0, 2, _, _ => simp only [List.findSome?, hb 0 1 (by decide) (by decide) (by omega), h]
  | 0, 3, _, _ => simp only [List.findSome?, hb 0 1 (by decide) (by decide) (by omega), hb 0 2 (by decide) (by decide) (by omega), h]
  | 1, 2, _, _ => simp only [List.findSome?, hb 0 1 (by decide) (by decide) (by omega), hb 0 2 (by decide) (by decide) (by omega), hb 0 3 (by decide) (by decide) (by omega), h]
  | 1, 3, _, _ => simp only [List.findSome?, hb 0 1 (by decide) (by decide) (by omega), hb 0 2 (by decide) (by decide) (by omega), hb 0 3 (by decide) (by decide) (by omega), hb 1 2 (by decide) (by decide) (by omega), h]
  | 2, 3, _, _ => simp only [List.findSome?, hb 0 1 (by decide) (by decide) (by omega), hb 0 2 (by decide) (by decide) (by omega), hb 0 3 (by decide) (by decide) (by omega), hb 1 2 (by decide) (by decide) (by omega), hb 1 3 (by decide) (by decide) (by omega), h]
  | i + 3, k, h1, h2 => exact absurd h1 (by omega)
/-- Four lists cut. -/
def sO (i : Nat) : Nat := if 4 = i then 0 else i
theorem sO_at {i : Nat} (h : i ≠ 4) : sO i = i := if_neg (Ne.symm h)
section
variable {f : Operand → Value} {o : Oper}
theorem run_cutH (x y : Operand) (ho : o.op = .slice 52 x (some y) none none) {b i : Nat} {z : Int} (hx : f x = .pointer (some ⟨b, 0, none⟩)) (hy : f y = .int .i64 z) (hz : z = (i : Int)) (hi : i ≤ 4) (w : World) :
    (execOp f o).run Try.prog w = .ok (.value (.slice (some ⟨b, sO i, none⟩) (4 - i) (4 - i))) w := by
  subst hz
  have : i = 0 ∨ i = 1 ∨ i = 2 ∨ i = 3 ∨ i = 4 := by omega
  unfold execOp
  rw [ho]
  simp only [Option.map_some, Option.map_none]
  rw [hx, hy]
  clear hx hy ho hi
  rcases this with rfl | rfl | rfl | rfl | rfl <;> go_simp <;> rfl
theorem run_lenLL (x : Operand) (ho : o.op = .call { callee := .builtin .len, args := #[x], argTypes := #[71] }) {ao : Option Addr} {n c : Nat} (hx : f x = .slice ao n c) (w : World) : (execOp f o).run Try.prog w = .ok (.value (.int .i64 ((n : Nat) : Int))) w := by
  unfold execOp
  rw [ho]
  dsimp only
  go_simp
theorem run_ixLL (x y : Operand) (ho : o.op = .indexAddr 71 x y) {b off n cap i : Nat} {z : Int} (hx : f x = .slice (some ⟨b, off, none⟩) n cap) (hy : f y = .int .i64 z) (hz : z = (i : Int)) (hi : i < n) (w : World) :
    (execOp f o).run Try.prog w = .ok (.value (.pointer (some ⟨b, off + i, none⟩))) w := by
  subst hz
  have hi2 : (i : Int) < n := by omega
  unfold execOp
  rw [ho]
  dsimp only
  rw [hx, hy]
  go_simp
end
set_option maxHeartbeats 4000000 in
theorem alike_any (n : Nd) (mo : Option Addr) (L : List Lm) (w : World) (hmr : MRd w mo L) :
    Calls Try.prog 14 #[agV (hrO n.id n.fr L 5 24) 0 4] w fun e w' => e = .returned (alkV (alk n L)) ∧ Below w.heap.size w w' := by
  refine enterF Try.func14 rfl 31 rfl (of_decide_eq_true rfl) (fun A hs hd hb => ?_)
  have b0 : A.eval (.tmp 0) = agV (hrO n.id n.fr L 5 24) 0 4 := hb 0 _ rfl
  clear hb
  refine c_rs (m_start ?_)
  refine m_do rfl (wanted_rd rfl) (fun K hK => ?_)
  refine wp_boxG _ _ _ rfl (ev_out rfl b0) (of_decide_eq_true rfl) ?_
  intro w1 m1 k1 z1
  refine hK _ _ ?_
  clear hK K
  refine m_mv rfl (wanted_rd rfl) (run_assign _ rfl (ev_const _ _) _) ?_
  refine l_nx ?_
  refine c_nx ?_
  refine c_rs ?_
  refine m_mv rfl (wanted_rd rfl) (run_loadP _ _ rfl manyHr (ev_in rfl (by omega)) m1 (by decide)) ?_
  refine m_mv rfl (wanted_rd rfl) (run_move _ rfl (ev_const _ _) _) ?_
  refine l_nx ?_
  refine c_block ?_
  refine c_loop (fun q A W => ∃ i : Nat, i ≤ 4 ∧ 4 - i ≤ q ∧ A.tmps.size = 31 ∧ A.defers = [] ∧ A.eval (.tmp 1) = .pointer (some ⟨w.heap.size, 0, none⟩) ∧ A.eval (.tmp 7) = agV (hrO n.id n.fr L 5 24) 0 4 ∧ A.eval (.tmp 8) = .int .i64 (i : Int) ∧ (∀ p q, p < q → q < 4 → p < i → pairL n L p q = none) ∧ Vh 52 W w.heap.size 4 4 (hrO n.id n.fr L 5 24) ∧ Below w.heap.size w W ∧ w1.heap.size ≤ W.heap.size) 4 ⟨0, by omega, by omega, (szL _ _).trans hs, (defL _ _).trans hd, (ev_in rfl (by omega)), (ev_in rfl (by omega)), (ev_in rfl (by omega)), fun p q _ _ h => absurd h (by omega), m1, k1, by omega⟩ (fun q B W hI2 => ?_)
  clear b0 hs hd
  obtain ⟨i, hi, hr2, hs, hd, b1, b7, b8, hno, mh, kB, hW⟩ := hI2
  by_cases hin : i < 4
  · refine c_rs (m_start ?_)
    refine m_mv rfl (wanted_rd rfl) (run_lssI (b := true) _ _ rfl (ev_out rfl b8) (ev_const _ _) (decide_eq_true (by omega)) _) ?_
    refine l_nx ?_
    refine c_nx (c_true (ev_in rfl (by omega)) (c_fin ?_))
    refine c_nx (c_block ?_)
    refine c_rs ?_
    refine m_mv rfl (wanted_rd rfl) (run_move _ rfl (ev_out rfl b8) _) ?_
    refine m_mv rfl (wanted_rd rfl) (run_ixV1 _ _ _ _ rfl Try.underlying52 oneIs (ev_out rfl b7) (ev_out rfl b8) rfl hin _) ?_
    refine m_mv rfl (wanted_rd rfl) (run_assign _ rfl (ev_in rfl (by omega)) _) ?_
    refine m_mv rfl (wanted_rd rfl) (run_assign _ rfl (ev_in rfl (by omega)) _) ?_
    refine l_nx ?_
    refine c_rs ?_
    refine m_mv rfl (wanted_rd rfl) (run_move _ rfl (ev_in rfl (by omega)) _) ?_
    refine m_mv rfl (wanted_rd rfl) (run_addI _ _ rfl (ev_in rfl (by omega)) (ev_const _ _) (by omega) (by omega) _) ?_
    refine m_mv rfl (wanted_rd rfl) (run_cutH (i := i + 1) _ _ rfl (ev_out rfl b1) (ev_in rfl (by omega)) (by rw [Int.natCast_add]; rfl) (by omega) _) ?_
    refine m_mv rfl (wanted_rd rfl) (run_lenLL _ rfl (ev_in rfl (by omega)) _) ?_
    refine m_mv rfl (wanted_rd rfl) (run_move _ rfl (ev_const _ _) _) ?_
    refine l_nx ?_
    refine c_block ?_
    refine c_loop (fun q A W => ∃ x : Nat, x ≤ 3 - i ∧ 3 - i - x ≤ q ∧ A.tmps.size = 31 ∧ A.defers = [] ∧ A.eval (.tmp 1) = .pointer (some ⟨w.heap.size, 0, none⟩) ∧ A.eval (.tmp 7) = agV (hrO n.id n.fr L 5 24) 0 4 ∧ A.eval (.tmp 8) = .int .i64 (i : Int) ∧ A.eval (.tmp 3) = .int .i64 (i : Int) ∧ A.eval (.tmp 4) = hrO n.id n.fr L 5 24 i ∧ A.eval (.tmp 14) = .slice (some ⟨w.heap.size, sO (i + 1), none⟩) (4 - (i + 1)) (4 - (i + 1)) ∧ A.eval (.tmp 15) = .int .i64 ((4 - (i + 1) : Nat) : Int) ∧ A.eval (.tmp 16) = .int .i64 (x : Int) ∧ (∀ p q, p < q → q < 4 → (p < i ∨ (p = i ∧ q < i + 1 + x)) → pairL n L p q = none) ∧ Vh 52 W w.heap.size 4 4 (hrO n.id n.fr L 5 24) ∧ Below w.heap.size w W ∧ w1.heap.size ≤ W.heap.size) (3 - i) ⟨0, by omega, by omega, (szL _ _).trans hs, (defL _ _).trans hd, (ev_out rfl b1), (ev_out rfl b7), (ev_out rfl b8), (ev_in rfl (by omega)), (ev_in rfl (by omega)), (ev_in rfl (by omega)), (ev_in rfl (by omega)), (ev_in rfl (by omega)), (fun p q h1 h2 h3 => hno p q h1 h2 (by omega)), mh, kB, hW⟩ (fun q3 B3 W3 hI3 => ?_)
    clear b1 b7 b8 hs hd mh hno
    obtain ⟨x, hx, hr3, hs, hd, b1, b7, b8, b3, b4, b14, b15, b16, hno, mh, kB3, hW3⟩ := hI3
    by_cases hin3 : x < 3 - i
    · have hi3 : i + 1 ≠ 4 := by omega
      have hin3b : x < 4 - (i + 1) := by omega
      have esO : sO (i + 1) + x = i + 1 + x := by rw [sO_at hi3]
      have b4r := b4
      rcases hfi : fL n.id n.fr L (i : Int) 5 24 with _ | ci
      · have b4 : B3.eval (.tmp 4) = .slice none 0 0 := b4.trans (by unfold hrO; rw [hfi])
        have hpk : pairL n L i (i + 1 + x) = none := by unfold pairL; rw [hfi]
        obtain ⟨ok, hok⟩ : ∃ v, hrO n.id n.fr L 5 24 (sO (i + 1) + x) = v := ⟨_, rfl⟩
        refine c_rs (m_start ?_)
        refine m_mv rfl (wanted_rd rfl) (run_lssI (b := true) _ _ rfl (ev_out rfl b16) (ev_out rfl b15) (decide_eq_true (by omega)) _) ?_
        refine l_nx ?_
        refine c_nx (c_true (ev_in rfl (by omega)) (c_fin ?_))
        refine c_nx (c_block ?_)
        refine c_rs ?_
        refine m_mv rfl (wanted_rd rfl) (run_ixLL _ _ rfl (ev_out rfl b14) (ev_out rfl b16) rfl hin3b _) ?_
        refine m_mv rfl (wanted_rd rfl) (run_lod1 _ _ rfl oneIs (ev_in rfl (by omega)) mh (by rw [sO_at hi3]; omega) hok) ?_
        refine m_mv rfl (wanted_rd rfl) (run_assign _ rfl (ev_in rfl (by omega)) _) ?_
        refine l_nx ?_
        refine c_rs ?_
        refine m_mv rfl (wanted_rd rfl) (run_move _ rfl (ev_out rfl b4) _) ?_
        refine m_mv rfl (wanted_rd rfl) (run_lenI _ rfl (ev_in rfl (by omega)) _) ?_
        refine m_mv rfl (wanted_rd rfl) (run_gtrI (b := false) _ _ rfl (ev_in rfl (by omega)) (ev_const _ _) (decide_eq_false (by omega)) _) ?_
        refine m_mv rfl (wanted_rd rfl) (run_move _ rfl (ev_in rfl (by omega)) _) ?_
        refine m_skip rfl (wanted_n (j := 3) rfl rfl rfl (ev_in rfl (by omega)) (by decide)) ?_
        refine m_skip rfl (wanted_n (j := 3) rfl rfl rfl (ev_in rfl (by omega)) (by decide)) ?_
        refine m_skip rfl (wanted_n (j := 3) rfl rfl rfl (ev_in rfl (by omega)) (by decide)) ?_
        refine m_mv rfl (wanted_rd rfl) (run_pickF _ _ _ rfl (ev_in rfl (by omega)) (ev_const _ _) _) ?_
        refine l_nx ?_
        refine c_false (ev_in rfl (by omega)) (c_finB ?_)
        refine c_region ?_
        refine m_mv rfl (wanted_rd rfl) (run_addI _ _ rfl (ev_out rfl b16) (ev_const _ _) (by omega) (by omega) _) ?_
        refine m_mv rfl (wanted_rd rfl) (run_move _ rfl (ev_in rfl (by omega)) _) ?_
        exact l_round ⟨3 - i - (x + 1), by omega, x + 1, by omega, by omega, (szL _ _).trans hs, (defL _ _).trans hd, (ev_out rfl b1), (ev_out rfl b7), (ev_out rfl b8), (ev_out rfl b3), (ev_out rfl b4r), (ev_out rfl b14), (ev_out rfl b15), (ev_in rfl (by omega)).trans (by rw [Int.natCast_add]; rfl), (fun p q h1 h2 h3 => by
          by_cases e : p = i ∧ q = i + 1 + x
          · rw [e.1, e.2]; exact hpk
          · exact hno p q h1 h2 (by omega)), mh, kB3, by omega⟩
      · obtain ⟨mci, fci⟩ := fL_mem hfi
        have lci := fit_len fci
        have b4 : B3.eval (.tmp 4) = .slice ci.ao ci.m.L.length ci.cap := b4.trans (by unfold hrO; rw [hfi]; rfl)
        rcases hfk : fL n.id n.fr L ((i + 1 + x : Nat) : Int) 5 24 with _ | ck
        · have hok : hrO n.id n.fr L 5 24 (sO (i + 1) + x) = .slice none 0 0 := by rw [esO]; unfold hrO; rw [hfk]
          have hpk : pairL n L i (i + 1 + x) = none := by unfold pairL; rw [hfi, hfk]
          have hnil : ¬ ci.m.L = [] := fun e => by rw [e] at lci; exact absurd lci (by decide)
          refine c_rs (m_start ?_)
          refine m_mv rfl (wanted_rd rfl) (run_lssI (b := true) _ _ rfl (ev_out rfl b16) (ev_out rfl b15) (decide_eq_true (by omega)) _) ?_
          refine l_nx ?_
          refine c_nx (c_true (ev_in rfl (by omega)) (c_fin ?_))
          refine c_nx (c_block ?_)
          refine c_rs ?_
          refine m_mv rfl (wanted_rd rfl) (run_ixLL _ _ rfl (ev_out rfl b14) (ev_out rfl b16) rfl hin3b _) ?_
          refine m_mv rfl (wanted_rd rfl) (run_lod1 _ _ rfl oneIs (ev_in rfl (by omega)) mh (by rw [sO_at hi3]; omega) hok) ?_
          refine m_mv rfl (wanted_rd rfl) (run_assign _ rfl (ev_in rfl (by omega)) _) ?_
          refine l_nx ?_
          refine c_rs ?_
          refine m_mv rfl (wanted_rd rfl) (run_move _ rfl (ev_out rfl b4) _) ?_
          refine m_mv rfl (wanted_rd rfl) (run_lenI _ rfl (ev_in rfl (by omega)) _) ?_
          refine m_mv rfl (wanted_rd rfl) (run_gtrI (b := true) _ _ rfl (ev_in rfl (by omega)) (ev_const _ _) (decide_eq_true (by omega)) _) ?_
          refine m_mv rfl (wanted_rd rfl) (run_move _ rfl (ev_in rfl (by omega)) _) ?_
          refine m_mv rfl (wanted_g (j := 3) rfl rfl rfl (ev_in rfl (by omega))) (run_move _ rfl (ev_out rfl b4) _) ?_
          refine m_mv rfl (wanted_g (j := 3) rfl rfl rfl (ev_in rfl (by omega))) (run_move _ rfl (ev_in rfl (by omega)) _) ?_
          refine m_do rfl (wanted_g (j := 3) rfl rfl rfl (ev_in rfl (by omega))) (fun K hK => ?_)
          have C21 := eqInts_any ci.m.L [] ci.ao none ci.cap 0 W3 (by have := (hmr.2 ci mci).2.2; omega) ((hmr.2 ci mci).below kB3).1 (Or.inl ⟨rfl, rfl, rfl⟩)
          rw [decide_eq_false hnil] at C21
          refine wp_call2 _ 24 _ _ _ rfl (ev_in rfl (by omega)) (ev_in rfl (by omega)) (enter_eqInts _ _ _) C21 ?_
          rintro e w21 ⟨rfl, k21⟩
          have n21 := k21.size
          have mh21 := mh.below k21
          refine ⟨_, rfl, ?_⟩
          refine hK _ _ ?_
          clear hK K
          refine m_mv rfl (wanted_rd rfl) (run_pickT' _ _ _ rfl (ev_in rfl (by omega)) (ev_in rfl (by omega)) _) ?_
          refine l_nx ?_
          refine c_false (ev_in rfl (by omega)) (c_finB ?_)
          refine c_region ?_
          refine m_mv rfl (wanted_rd rfl) (run_addI _ _ rfl (ev_out rfl b16) (ev_const _ _) (by omega) (by omega) _) ?_
          refine m_mv rfl (wanted_rd rfl) (run_move _ rfl (ev_in rfl (by omega)) _) ?_
          exact l_round ⟨3 - i - (x + 1), by omega, x + 1, by omega, by omega, (szL _ _).trans hs, (defL _ _).trans hd, (ev_out rfl b1), (ev_out rfl b7), (ev_out rfl b8), (ev_out rfl b3), (ev_out rfl b4r), (ev_out rfl b14), (ev_out rfl b15), (ev_in rfl (by omega)).trans (by rw [Int.natCast_add]; rfl), (fun p q h1 h2 h3 => by
            by_cases e : p = i ∧ q = i + 1 + x
            · rw [e.1, e.2]; exact hpk
            · exact hno p q h1 h2 (by omega)), mh21, kB3.trans (k21.mono (by omega)), by omega⟩
        · obtain ⟨mck, fck⟩ := fL_mem hfk
          have hok : hrO n.id n.fr L 5 24 (sO (i + 1) + x) = .slice ck.ao ck.m.L.length ck.cap := by rw [esO]; unfold hrO; rw [hfk]; rfl
          by_cases he : ci.m.L = ck.m.L
          · have hpk : pairL n L i (i + 1 + x) = some ci := by unfold pairL; rw [hfi, hfk]; exact if_pos he
            refine c_rs (m_start ?_)
            refine m_mv rfl (wanted_rd rfl) (run_lssI (b := true) _ _ rfl (ev_out rfl b16) (ev_out rfl b15) (decide_eq_true (by omega)) _) ?_
            refine l_nx ?_
            refine c_nx (c_true (ev_in rfl (by omega)) (c_fin ?_))
            refine c_nx (c_block ?_)
            refine c_rs ?_
            refine m_mv rfl (wanted_rd rfl) (run_ixLL _ _ rfl (ev_out rfl b14) (ev_out rfl b16) rfl hin3b _) ?_
            refine m_mv rfl (wanted_rd rfl) (run_lod1 _ _ rfl oneIs (ev_in rfl (by omega)) mh (by rw [sO_at hi3]; omega) hok) ?_
            refine m_mv rfl (wanted_rd rfl) (run_assign _ rfl (ev_in rfl (by omega)) _) ?_
            refine l_nx ?_
            refine c_rs ?_
            refine m_mv rfl (wanted_rd rfl) (run_move _ rfl (ev_out rfl b4) _) ?_
            refine m_mv rfl (wanted_rd rfl) (run_lenI _ rfl (ev_in rfl (by omega)) _) ?_
            refine m_mv rfl (wanted_rd rfl) (run_gtrI (b := true) _ _ rfl (ev_in rfl (by omega)) (ev_const _ _) (decide_eq_true (by omega)) _) ?_
            refine m_mv rfl (wanted_rd rfl) (run_move _ rfl (ev_in rfl (by omega)) _) ?_
            refine m_mv rfl (wanted_g (j := 3) rfl rfl rfl (ev_in rfl (by omega))) (run_move _ rfl (ev_out rfl b4) _) ?_
            refine m_mv rfl (wanted_g (j := 3) rfl rfl rfl (ev_in rfl (by omega))) (run_move _ rfl (ev_in rfl (by omega)) _) ?_
            refine m_do rfl (wanted_g (j := 3) rfl rfl rfl (ev_in rfl (by omega))) (fun K hK => ?_)
            have C21 := eqInts_any ci.m.L ck.m.L ci.ao ck.ao ci.cap ck.cap W3 (by have := (hmr.2 ci mci).2.2; omega) ((hmr.2 ci mci).below kB3).1 ((hmr.2 ck mck).below kB3).1
            rw [decide_eq_true he] at C21
            refine wp_call2 _ 24 _ _ _ rfl (ev_in rfl (by omega)) (ev_in rfl (by omega)) (enter_eqInts _ _ _) C21 ?_
            rintro e w21 ⟨rfl, k21⟩
            have n21 := k21.size
            have mh21 := mh.below k21
            refine ⟨_, rfl, ?_⟩
            refine hK _ _ ?_
            clear hK K
            refine m_mv rfl (wanted_rd rfl) (run_pickT' _ _ _ rfl (ev_in rfl (by omega)) (ev_in rfl (by omega)) _) ?_
            refine l_nx ?_
            refine c_true (ev_in rfl (by omega)) ?_
            refine c_rs ?_
            refine m_mv rfl (wanted_rd rfl) (run_move _ rfl (ev_out rfl b4) _) ?_
            refine m_mv rfl (wanted_rd rfl) (run_assign _ rfl (ev_in rfl (by omega)) _) ?_
            refine l_nx ?_
            refine c_ret ?_
            simp only [Nx, Exit.inBlock, Exit.then]
            refine ret_of ((defL _ _).trans hd) (res_t rfl (ev_in rfl (by omega))) ⟨?_, kB3.trans (k21.mono (by omega))⟩
            unfold alkV
            rw [alk_found (show i < i + 1 + x by omega) (by omega) hpk (fun p q h1 h2 h3 => hno p q h1 h2 h3)]
            rfl
          · have hpk : pairL n L i (i + 1 + x) = none := by unfold pairL; rw [hfi, hfk]; exact if_neg he
            refine c_rs (m_start ?_)
            refine m_mv rfl (wanted_rd rfl) (run_lssI (b := true) _ _ rfl (ev_out rfl b16) (ev_out rfl b15) (decide_eq_true (by omega)) _) ?_
            refine l_nx ?_
            refine c_nx (c_true (ev_in rfl (by omega)) (c_fin ?_))
            refine c_nx (c_block ?_)
            refine c_rs ?_
            refine m_mv rfl (wanted_rd rfl) (run_ixLL _ _ rfl (ev_out rfl b14) (ev_out rfl b16) rfl hin3b _) ?_
            refine m_mv rfl (wanted_rd rfl) (run_lod1 _ _ rfl oneIs (ev_in rfl (by omega)) mh (by rw [sO_at hi3]; omega) hok) ?_
            refine m_mv rfl (wanted_rd rfl) (run_assign _ rfl (ev_in rfl (by omega)) _) ?_
            refine l_nx ?_
            refine c_rs ?_
            refine m_mv rfl (wanted_rd rfl) (run_move _ rfl (ev_out rfl b4) _) ?_
            refine m_mv rfl (wanted_rd rfl) (run_lenI _ rfl (ev_in rfl (by omega)) _) ?_
            refine m_mv rfl (wanted_rd rfl) (run_gtrI (b := true) _ _ rfl (ev_in rfl (by omega)) (ev_const _ _) (decide_eq_true (by omega)) _) ?_
            refine m_mv rfl (wanted_rd rfl) (run_move _ rfl (ev_in rfl (by omega)) _) ?_
            refine m_mv rfl (wanted_g (j := 3) rfl rfl rfl (ev_in rfl (by omega))) (run_move _ rfl (ev_out rfl b4) _) ?_
            refine m_mv rfl (wanted_g (j := 3) rfl rfl rfl (ev_in rfl (by omega))) (run_move _ rfl (ev_in rfl (by omega)) _) ?_
            refine m_do rfl (wanted_g (j := 3) rfl rfl rfl (ev_in rfl (by omega))) (fun K hK => ?_)
            have C21 := eqInts_any ci.m.L ck.m.L ci.ao ck.ao ci.cap ck.cap W3 (by have := (hmr.2 ci mci).2.2; omega) ((hmr.2 ci mci).below kB3).1 ((hmr.2 ck mck).below kB3).1
            rw [decide_eq_false he] at C21
            refine wp_call2 _ 24 _ _ _ rfl (ev_in rfl (by omega)) (ev_in rfl (by omega)) (enter_eqInts _ _ _) C21 ?_
            rintro e w21 ⟨rfl, k21⟩
            have n21 := k21.size
            have mh21 := mh.below k21
            refine ⟨_, rfl, ?_⟩
            refine hK _ _ ?_
            clear hK K
            refine m_mv rfl (wanted_rd rfl) (run_pickT' _ _ _ rfl (ev_in rfl (by omega)) (ev_in rfl (by omega)) _) ?_
            refine l_nx ?_
            refine c_false (ev_in rfl (by omega)) (c_finB ?_)
            refine c_region ?_
            refine m_mv rfl (wanted_rd rfl) (run_addI _ _ rfl (ev_out rfl b16) (ev_const _ _) (by omega) (by omega) _) ?_
            refine m_mv rfl (wanted_rd rfl) (run_move _ rfl (ev_in rfl (by omega)) _) ?_
            exact l_round ⟨3 - i - (x + 1), by omega, x + 1, by omega, by omega, (szL _ _).trans hs, (defL _ _).trans hd, (ev_out rfl b1), (ev_out rfl b7), (ev_out rfl b8), (ev_out rfl b3), (ev_out rfl b4r), (ev_out rfl b14), (ev_out rfl b15), (ev_in rfl (by omega)).trans (by rw [Int.natCast_add]; rfl), (fun p q h1 h2 h3 => by
              by_cases e : p = i ∧ q = i + 1 + x
              · rw [e.1, e.2]; exact hpk
              · exact hno p q h1 h2 (by omega)), mh21, kB3.trans (k21.mono (by omega)), by omega⟩
    · refine c_rs (m_start ?_)
      refine m_mv rfl (wanted_rd rfl) (run_lssI (b := false) _ _ rfl (ev_out rfl b16) (ev_out rfl b15) (decide_eq_false (by omega)) _) ?_
      refine l_nx ?_
      refine c_nx (c_false (ev_in rfl (by omega)) (c_exit (x_out2 ?_)))
      refine c_region ?_
      refine m_mv rfl (wanted_rd rfl) (run_addI _ _ rfl (ev_out rfl b8) (ev_const _ _) (by omega) (by omega) _) ?_
      refine m_mv rfl (wanted_rd rfl) (run_move _ rfl (ev_in rfl (by omega)) _) ?_
      exact l_round ⟨4 - (i + 1), by omega, i + 1, by omega, by omega, (szL _ _).trans hs, (defL _ _).trans hd, (ev_out rfl b1), (ev_out rfl b7), (ev_in rfl (by omega)).trans (by rw [Int.natCast_add]; rfl), (fun p q h1 h2 h3 => hno p q h1 h2 (by omega)), mh, kB3, hW3⟩
  · refine c_rs (m_start ?_)
    refine m_mv rfl (wanted_rd rfl) (run_lssI (b := false) _ _ rfl (ev_out rfl b8) (ev_const _ _) (decide_eq_false (by omega)) _) ?_
    refine l_nx ?_
    refine c_nx (c_false (ev_in rfl (by omega)) (c_exit (x_out ?_)))
    refine c_rs ?_
    refine m_mv rfl (wanted_rd rfl) (run_assign _ rfl (ev_const _ _) _) ?_
    refine l_nx ?_
    refine c_ret (ret_of ((defL _ _).trans hd) (res_t rfl (ev_in rfl (by omega))) ⟨?_, kB⟩)
    unfold alkV
    rw [alk_none (fun p q h1 h2 => hno p q h1 h2 (by omega))]

end Go.Proofs.Ytngmeaaglogieab

namespace Go.Proofs.Ytngmeaaglogieab
open Go.RowKit

/-- The computer whose report is put out. -/
def cloR (n : Nd) (l : List Ms) : Nd := if noN n.id then zeroN else cloN n l
/-- Close. -/
def ClOK (fn : Nat) : Prop := ∀ (n : Nd) (ao : Option Addr) (c : Nat) (mo : Option Addr) (mc : Nat) (L : List Lm) (w : World), NdOK n → AgRd w n ao c → MRd w mo L → L.length ≤ 140737488351232 → L.length ≤ mc → (∀ m, m ∈ L → ∀ i, R64 (gL m.m.L i)) →
  Calls Try.prog fn #[ndV n (.slice ao n.vA.length c), .slice mo L.length mc] w fun e w' => ∃ a' c', e = .returned (.tuple #[ndV (cloN n (L.map Lm.m)) (.slice a' (cloN n (L.map Lm.m)).vA.length c'), agV (rpF (cloR n (L.map Lm.m))) 0 14]) ∧ AgNew w.heap.size w' (cloN n (L.map Lm.m)) a' c' ∧ Below w.heap.size w w'
/-- With what the first pair tells that is heard and alike. -/
def cloT (n : Nd) (L : List Lm) : Nd := match alk n L with | some c => if unOK c.m.L then { n with ax := unA c.m.L, rl := unR c.m.L } else n | none => n
theorem cloT_vA (n : Nd) (L : List Lm) : (cloT n L).vA = n.vA := by
  unfold cloT
  split
  · split <;> rfl
  · rfl
theorem pair_map (n : Nd) (L : List Lm) (p : Nat × Nat) : pairN n (L.map Lm.m) p = (pairL n L p.1 p.2).map (fun c => c.m.L) := by
  unfold pairN pairL
  have h1 := fL_frst n L p.1 5 24
  have h2 := fL_frst n L p.2 5 24
  rw [show ((24 : Nat) : Int) = 24 from rfl] at h1 h2
  rw [← h1, ← h2]
  cases fL n.id n.fr L (p.1 : Int) 5 24 with
  | none => rfl
  | some a =>
    cases fL n.id n.fr L (p.2 : Int) 5 24 with
    | none => rfl
    | some b =>
      show (if a.m.L = b.m.L then some a.m.L else none) = Option.map _ (if a.m.L = b.m.L then some a else none)
      split <;> rfl
theorem find_map {α β γ : Type} (g : α → Option β) (f : β → γ) (l : List α) : l.findSome? (fun p => (g p).map f) = (l.findSome? g).map f := by
  induction l with
  | nil => rfl
  | cons x l ih =>
    rw [List.findSome?_cons, List.findSome?_cons]
    cases g x with
    | none => exact ih
    | some b => rfl
theorem alk_map (n : Nd) (L : List Lm) : prs.findSome? (pairN n (L.map Lm.m)) = (alk n L).map (fun c => c.m.L) := by
  unfold alk
  rw [← find_map]
  congr 1
  funext p
  exact pair_map n L p
theorem clo_still {n : Nd} {l : List Ms} (hno : noN n.id = false) (h : ¬ (n.vS = true ∧ n.vX ≠ n.dg)) : cloN n l = n := by
  unfold cloN cloV
  rw [if_neg (by rw [hno]; decide), if_neg h]
theorem clo_take {n : Nd} {L : List Lm} (hno : noN n.id = false) (h : n.vS = true ∧ n.vX ≠ n.dg) : cloN n (L.map Lm.m) = cloT n L := by
  unfold cloN cloV cloT
  rw [if_neg (by rw [hno]; decide), if_pos h, alk_map]
  cases alk n L <;> rfl
theorem pair_mem {n : Nd} {L : List Lm} {p q : Nat} {c : Lm} (h : pairL n L p q = some c) : c ∈ L ∧ c.m.L.length = 24 := by
  unfold pairL at h
  cases h1 : fL n.id n.fr L (p : Int) 5 24 with
  | none => rw [h1] at h; cases h
  | some a =>
    rw [h1] at h
    cases h2 : fL n.id n.fr L (q : Int) 5 24 with
    | none => rw [h2] at h; cases h
    | some b =>
      rw [h2] at h
      dsimp only at h
      split at h
      · cases h
        obtain ⟨m, f⟩ := fL_mem h1
        exact ⟨m, by have := fit_len f; omega⟩
      · cases h
theorem alk_mem {n : Nd} {L : List Lm} {c : Lm} (h : alk n L = some c) : c ∈ L ∧ c.m.L.length = 24 := by
  unfold alk at h
  obtain ⟨p, _, hp⟩ := List.exists_of_findSome?_eq_some h
  exact pair_mem hp
theorem alk_row {n : Nd} {L : List Lm} {mo : Option Addr} {w : World} (hmr : MRd w mo L) : ∃ (to : Option Addr) (tc : Nat) (v : List Int), alkV (alk n L) = .slice to v.length tc ∧ Sr w to v.length tc (iF (gL v)) ∧ v.length ≤ tc ∧ movN n v = cloT n L := by
  cases h : alk n L with
  | none => exact ⟨none, 0, [], rfl, Or.inl ⟨rfl, rfl, rfl⟩, Nat.le_refl _, by unfold movN cloT; rw [h]; rfl⟩
  | some c =>
    obtain ⟨m, hl⟩ := alk_mem h
    refine ⟨c.ao, c.cap, c.m.L, rfl, (hmr.2 c m).1, (hmr.2 c m).2.1, ?_⟩
    unfold movN cloT
    rw [h, decide_eq_true hl, Bool.true_and]

end Go.Proofs.Ytngmeaaglogieab
