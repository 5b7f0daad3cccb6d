/- Joined: NodC6, NodClo, RefNod7, NodPr8. -/
import Derived.Test.YtngmeaaglogieabGreatNear75
import Derived.Test.YtngmeaaglogieabGreatNodPr4
import Derived.Test.YtngmeaaglogieabGreatNear72
namespace Go.Proofs.YtngmeaaglogieabGreat
open Go.RowKit

theorem enter_calike (x : Value) (w : World) : (callFunc 27 #[x]).run Tryz.prog w = .ok (.enter 27 #[x]) w := by go_simp
/-- What a pair tells, if both are heard and alike; the first such pair. -/
def pairL (n : Nd) (L : List Lm) (p q : Nat) : Option Lm := match fL n.id n.fr L (p : Int) 5 24, fL n.id n.fr L (q : Int) 5 24 with | some a, some b => if a.m.L = b.m.L then some a else none | _, _ => none
def alk (n : Nd) (L : List Lm) : Option Lm := prs.findSome? fun p => pairL n L p.1 p.2
def alkV : Option Lm → Value
  | some c => lmV c
  | none => .slice none 0 0
theorem alk_none {n : Nd} {L : List Lm} (h : ∀ p q, p < q → q < 4 → pairL n L p q = none) : alk n L = none := by
  unfold alk
  rw [List.findSome?_eq_none_iff]
  intro p hp
  unfold prs at hp
  simp only [List.mem_cons, List.not_mem_nil, or_false] at hp
  rcases hp with rfl | rfl | rfl | rfl | rfl | rfl <;> exact h _ _ (by decide) (by decide)
theorem alk_found {n : Nd} {L : List Lm} {i k : Nat} {c : Lm} (hik : i < k) (hk : k < 4) (h : pairL n L i k = some c) (hb : ∀ p q, p < q → q < 4 → (p < i ∨ (p = i ∧ q < k)) → pairL n L p q = none) : alk n L = some c := by
  unfold alk prs
  match i, k, hik, hk with
  | 0, 1, _, _ => simp only [List.findSome?, h]
  | 0, 2, _, _ => simp only [List.findSome?, hb 0 1 (by decide) (by decide) (by omega), h]
  | 0, 3, _, _ => simp only [List.findSome?, hb 0 1 (by decide) (by decide) (by omega), hb 0 2 (by decide) (by decide) (by omega), h]
  | 1, 2, _, _ => simp only [List.findSome?, hb 0 1 (by decide) (by decide) (by omega), hb 0 2 (by decide) (by decide) (by omega), hb 0 3 (by decide) (by decide) (by omega), h]
  | 1, 3, _, _ => simp only [List.findSome?, hb 0 1 (by decide) (by decide) (by omega), hb 0 2 (by decide) (by decide) (by omega), hb 0 3 (by decide) (by decide) (by omega), hb 1 2 (by decide) (by decide) (by omega), h]
  | 2, 3, _, _ => simp only [List.findSome?, hb 0 1 (by decide) (by decide) (by omega), hb 0 2 (by decide) (by decide) (by omega), hb 0 3 (by decide) (by decide) (by omega), hb 1 2 (by decide) (by decide) (by omega), hb 1 3 (by decide) (by decide) (by omega), h]
  | i + 3, k, h1, h2 => exact absurd h1 (by omega)
/-- Four lists cut. -/
def sO (i : Nat) : Nat := if 4 = i then 0 else i
theorem sO_at {i : Nat} (h : i ≠ 4) : sO i = i := if_neg (Ne.symm h)
section
variable {f : Operand → Value} {o : Oper}
theorem run_cutH (x y : Operand) (ho : o.op = .slice 59 x (some y) none none) {b i : Nat} {z : Int} (hx : f x = .pointer (some ⟨b, 0, none⟩)) (hy : f y = .int .i64 z) (hz : z = (i : Int)) (hi : i ≤ 4) (w : World) :
    (execOp f o).run Tryz.prog w = .ok (.value (.slice (some ⟨b, sO i, none⟩) (4 - i) (4 - i))) w := by
  subst hz
  have : i = 0 ∨ i = 1 ∨ i = 2 ∨ i = 3 ∨ i = 4 := by omega
  unfold execOp
  rw [ho]
  simp only [Option.map_some, Option.map_none]
  rw [hx, hy]
  clear hx hy ho hi
  rcases this with rfl | rfl | rfl | rfl | rfl <;> go_simp <;> rfl
theorem run_lenLL (x : Operand) (ho : o.op = .call { callee := .builtin .len, args := #[x], argTypes := #[99] }) {ao : Option Addr} {n c : Nat} (hx : f x = .slice ao n c) (w : World) : (execOp f o).run Tryz.prog w = .ok (.value (.int .i64 ((n : Nat) : Int))) w := by
  unfold execOp
  rw [ho]
  dsimp only
  go_simp
theorem run_ixLL (x y : Operand) (ho : o.op = .indexAddr 99 x y) {b off n cap i : Nat} {z : Int} (hx : f x = .slice (some ⟨b, off, none⟩) n cap) (hy : f y = .int .i64 z) (hz : z = (i : Int)) (hi : i < n) (w : World) :
    (execOp f o).run Tryz.prog w = .ok (.value (.pointer (some ⟨b, off + i, none⟩))) w := by
  subst hz
  have hi2 : (i : Int) < n := by omega
  unfold execOp
  rw [ho]
  dsimp only
  rw [hx, hy]
  go_simp
end
set_option maxHeartbeats 4000000 in
theorem alike_any (n : Nd) (mo : Option Addr) (L : List Lm) (w : World) (hmr : MRd w mo L) :
    Calls Tryz.prog 27 #[agV (hrO n.id n.fr L 5 24) 0 4] w fun e w' => e = .returned (alkV (alk n L)) ∧ Below w.heap.size w w' := by
  refine enterF Tryz.func27 rfl 31 rfl (of_decide_eq_true rfl) (fun A hs hd hb => ?_)
  have b0 : A.eval (.tmp 0) = agV (hrO n.id n.fr L 5 24) 0 4 := hb 0 _ rfl
  clear hb
  refine c_rs (m_start ?_)
  refine m_do rfl (wanted_rd rfl) (fun K hK => ?_)
  refine wp_boxG _ _ _ rfl (ev_out rfl b0) (of_decide_eq_true rfl) ?_
  intro w1 m1 k1 z1
  refine hK _ _ ?_
  clear hK K
  refine m_mv rfl (wanted_rd rfl) (run_assign _ rfl (ev_const _ _) _) ?_
  refine l_nx ?_
  refine c_nx ?_
  refine c_rs ?_
  refine m_mv rfl (wanted_rd rfl) (run_loadP _ _ rfl manyHr (ev_in rfl (by omega)) m1 (by decide)) ?_
  refine m_mv rfl (wanted_rd rfl) (run_move _ rfl (ev_const _ _) _) ?_
  refine l_nx ?_
  refine c_block ?_
  refine c_loop (fun q A W => ∃ i : Nat, i ≤ 4 ∧ 4 - i ≤ q ∧ A.tmps.size = 31 ∧ A.defers = [] ∧ A.eval (.tmp 1) = .pointer (some ⟨w.heap.size, 0, none⟩) ∧ A.eval (.tmp 7) = agV (hrO n.id n.fr L 5 24) 0 4 ∧ A.eval (.tmp 8) = .int .i64 (i : Int) ∧ (∀ p q, p < q → q < 4 → p < i → pairL n L p q = none) ∧ Vh 59 W w.heap.size 4 4 (hrO n.id n.fr L 5 24) ∧ Below w.heap.size w W ∧ w1.heap.size ≤ W.heap.size) 4 ⟨0, by omega, by omega, (szL _ _).trans hs, (defL _ _).trans hd, (ev_in rfl (by omega)), (ev_in rfl (by omega)), (ev_in rfl (by omega)), fun p q _ _ h => absurd h (by omega), m1, k1, by omega⟩ (fun q B W hI2 => ?_)
  clear b0 hs hd
  obtain ⟨i, hi, hr2, hs, hd, b1, b7, b8, hno, mh, kB, hW⟩ := hI2
  by_cases hin : i < 4
  · refine c_rs (m_start ?_)
    refine m_mv rfl (wanted_rd rfl) (run_lssI (b := true) _ _ rfl (ev_out rfl b8) (ev_const _ _) (decide_eq_true (by omega)) _) ?_
    refine l_nx ?_
    refine c_nx (c_true (ev_in rfl (by omega)) (c_fin ?_))
    refine c_nx (c_block ?_)
    refine c_rs ?_
    refine m_mv rfl (wanted_rd rfl) (run_move _ rfl (ev_out rfl b8) _) ?_
    refine m_mv rfl (wanted_rd rfl) (run_ixV1 _ _ _ _ rfl Tryz.underlying59 oneIs (ev_out rfl b7) (ev_out rfl b8) rfl hin _) ?_
    refine m_mv rfl (wanted_rd rfl) (run_assign _ rfl (ev_in rfl (by omega)) _) ?_
    refine m_mv rfl (wanted_rd rfl) (run_assign _ rfl (ev_in rfl (by omega)) _) ?_
    refine l_nx ?_
    refine c_rs ?_
    refine m_mv rfl (wanted_rd rfl) (run_move _ rfl (ev_in rfl (by omega)) _) ?_
    refine m_mv rfl (wanted_rd rfl) (run_addI _ _ rfl (ev_in rfl (by omega)) (ev_const _ _) (by omega) (by omega) _) ?_
    refine m_mv rfl (wanted_rd rfl) (run_cutH (i := i + 1) _ _ rfl (ev_out rfl b1) (ev_in rfl (by omega)) (by rw [Int.natCast_add]; rfl) (by omega) _) ?_
    refine m_mv rfl (wanted_rd rfl) (run_lenLL _ rfl (ev_in rfl (by omega)) _) ?_
    refine m_mv rfl (wanted_rd rfl) (run_move _ rfl (ev_const _ _) _) ?_
    refine l_nx ?_
    refine c_block ?_
    refine c_loop (fun q A W => ∃ x : Nat, x ≤ 3 - i ∧ 3 - i - x ≤ q ∧ A.tmps.size = 31 ∧ A.defers = [] ∧ A.eval (.tmp 1) = .pointer (some ⟨w.heap.size, 0, none⟩) ∧ A.eval (.tmp 7) = agV (hrO n.id n.fr L 5 24) 0 4 ∧ A.eval (.tmp 8) = .int .i64 (i : Int) ∧ A.eval (.tmp 3) = .int .i64 (i : Int) ∧ A.eval (.tmp 4) = hrO n.id n.fr L 5 24 i ∧ A.eval (.tmp 14) = .slice (some ⟨w.heap.size, sO (i + 1), none⟩) (4 - (i + 1)) (4 - (i + 1)) ∧ A.eval (.tmp 15) = .int .i64 ((4 - (i + 1) : Nat) : Int) ∧ A.eval (.tmp 16) = .int .i64 (x : Int) ∧ (∀ p q, p < q → q < 4 → (p < i ∨ (p = i ∧ q < i + 1 + x)) → pairL n L p q = none) ∧ Vh 59 W w.heap.size 4 4 (hrO n.id n.fr L 5 24) ∧ Below w.heap.size w W ∧ w1.heap.size ≤ W.heap.size) (3 - i) ⟨0, by omega, by omega, (szL _ _).trans hs, (defL _ _).trans hd, (ev_out rfl b1), (ev_out rfl b7), (ev_out rfl b8), (ev_in rfl (by omega)), (ev_in rfl (by omega)), (ev_in rfl (by omega)), (ev_in rfl (by omega)), (ev_in rfl (by omega)), (fun p q h1 h2 h3 => hno p q h1 h2 (by omega)), mh, kB, hW⟩ (fun q3 B3 W3 hI3 => ?_)
    clear b1 b7 b8 hs hd mh hno
    obtain ⟨x, hx, hr3, hs, hd, b1, b7, b8, b3, b4, b14, b15, b16, hno, mh, kB3, hW3⟩ := hI3
    by_cases hin3 : x < 3 - i
    · have hi3 : i + 1 ≠ 4 := by omega
      have hin3b : x < 4 - (i + 1) := by omega
      have esO : sO (i + 1) + x = i + 1 + x := by rw [sO_at hi3]
      have b4r := b4
      rcases hfi : fL n.id n.fr L (i : Int) 5 24 with _ | ci
      · have b4 : B3.eval (.tmp 4) = .slice none 0 0 := b4.trans (by unfold hrO; rw [hfi])
        have hpk : pairL n L i (i + 1 + x) = none := by unfold pairL; rw [hfi]
        obtain ⟨ok, hok⟩ : ∃ v, hrO n.id n.fr L 5 24 (sO (i + 1) + x) = v := ⟨_, rfl⟩
        refine c_rs (m_start ?_)
        refine m_mv rfl (wanted_rd rfl) (run_lssI (b := true) _ _ rfl (ev_out rfl b16) (ev_out rfl b15) (decide_eq_true (by omega)) _) ?_
        refine l_nx ?_
        refine c_nx (c_true (ev_in rfl (by omega)) (c_fin ?_))
        refine c_nx (c_block ?_)
        refine c_rs ?_
        refine m_mv rfl (wanted_rd rfl) (run_ixLL _ _ rfl (ev_out rfl b14) (ev_out rfl b16) rfl hin3b _) ?_
        refine m_mv rfl (wanted_rd rfl) (run_lod1 _ _ rfl oneIs (ev_in rfl (by omega)) mh (by rw [sO_at hi3]; omega) hok) ?_
        refine m_mv rfl (wanted_rd rfl) (run_assign _ rfl (ev_in rfl (by omega)) _) ?_
        refine l_nx ?_
        refine c_rs ?_
        refine m_mv rfl (wanted_rd rfl) (run_move _ rfl (ev_out rfl b4) _) ?_
        refine m_mv rfl (wanted_rd rfl) (run_lenI _ rfl (ev_in rfl (by omega)) _) ?_
        refine m_mv rfl (wanted_rd rfl) (run_gtrI (b := false) _ _ rfl (ev_in rfl (by omega)) (ev_const _ _) (decide_eq_false (by omega)) _) ?_
        refine m_mv rfl (wanted_rd rfl) (run_move _ rfl (ev_in rfl (by omega)) _) ?_
        refine m_skip rfl (wanted_n (j := 3) rfl rfl rfl (ev_in rfl (by omega)) (by decide)) ?_
        refine m_skip rfl (wanted_n (j := 3) rfl rfl rfl (ev_in rfl (by omega)) (by decide)) ?_
        refine m_skip rfl (wanted_n (j := 3) rfl rfl rfl (ev_in rfl (by omega)) (by decide)) ?_
        refine m_mv rfl (wanted_rd rfl) (run_pickF _ _ _ rfl (ev_in rfl (by omega)) (ev_const _ _) _) ?_
        refine l_nx ?_
        refine c_false (ev_in rfl (by omega)) (c_finB ?_)
        refine c_region ?_
        refine m_mv rfl (wanted_rd rfl) (run_addI _ _ rfl (ev_out rfl b16) (ev_const _ _) (by omega) (by omega) _) ?_
        refine m_mv rfl (wanted_rd rfl) (run_move _ rfl (ev_in rfl (by omega)) _) ?_
        exact l_round ⟨3 - i - (x + 1), by omega, x + 1, by omega, by omega, (szL _ _).trans hs, (defL _ _).trans hd, (ev_out rfl b1), (ev_out rfl b7), (ev_out rfl b8), (ev_out rfl b3), (ev_out rfl b4r), (ev_out rfl b14), (ev_out rfl b15), (ev_in rfl (by omega)).trans (by rw [Int.natCast_add]; rfl), (fun p q h1 h2 h3 => by
          by_cases e : p = i ∧ q = i + 1 + x
          · rw [e.1, e.2]; exact hpk
          · exact hno p q h1 h2 (by omega)), mh, kB3, by omega⟩
      · obtain ⟨mci, fci⟩ := fL_mem hfi
        have lci := fit_len fci
        have b4 : B3.eval (.tmp 4) = .slice ci.ao ci.m.L.length ci.cap := b4.trans (by unfold hrO; rw [hfi]; rfl)
        rcases hfk : fL n.id n.fr L ((i + 1 + x : Nat) : Int) 5 24 with _ | ck
        · have hok : hrO n.id n.fr L 5 24 (sO (i + 1) + x) = .slice none 0 0 := by rw [esO]; unfold hrO; rw [hfk]
          have hpk : pairL n L i (i + 1 + x) = none := by unfold pairL; rw [hfi, hfk]
          have hnil : ¬ ci.m.L = [] := fun e => by rw [e] at lci; exact absurd lci (by decide)
          refine c_rs (m_start ?_)
          refine m_mv rfl (wanted_rd rfl) (run_lssI (b := true) _ _ rfl (ev_out rfl b16) (ev_out rfl b15) (decide_eq_true (by omega)) _) ?_
          refine l_nx ?_
          refine c_nx (c_true (ev_in rfl (by omega)) (c_fin ?_))
          refine c_nx (c_block ?_)
          refine c_rs ?_
          refine m_mv rfl (wanted_rd rfl) (run_ixLL _ _ rfl (ev_out rfl b14) (ev_out rfl b16) rfl hin3b _) ?_
          refine m_mv rfl (wanted_rd rfl) (run_lod1 _ _ rfl oneIs (ev_in rfl (by omega)) mh (by rw [sO_at hi3]; omega) hok) ?_
          refine m_mv rfl (wanted_rd rfl) (run_assign _ rfl (ev_in rfl (by omega)) _) ?_
          refine l_nx ?_
          refine c_rs ?_
          refine m_mv rfl (wanted_rd rfl) (run_move _ rfl (ev_out rfl b4) _) ?_
          refine m_mv rfl (wanted_rd rfl) (run_lenI _ rfl (ev_in rfl (by omega)) _) ?_
          refine m_mv rfl (wanted_rd rfl) (run_gtrI (b := true) _ _ rfl (ev_in rfl (by omega)) (ev_const _ _) (decide_eq_true (by omega)) _) ?_
          refine m_mv rfl (wanted_rd rfl) (run_move _ rfl (ev_in rfl (by omega)) _) ?_
          refine m_mv rfl (wanted_g (j := 3) rfl rfl rfl (ev_in rfl (by omega))) (run_move _ rfl (ev_out rfl b4) _) ?_
          refine m_mv rfl (wanted_g (j := 3) rfl rfl rfl (ev_in rfl (by omega))) (run_move _ rfl (ev_in rfl (by omega)) _) ?_
          refine m_do rfl (wanted_g (j := 3) rfl rfl rfl (ev_in rfl (by omega))) (fun K hK => ?_)
          have C21 := eqInts_any ci.m.L [] ci.ao none ci.cap 0 W3 (by have := (hmr.2 ci mci).2.2; omega) ((hmr.2 ci mci).below kB3).1 (Or.inl ⟨rfl, rfl, rfl⟩)
          rw [decide_eq_false hnil] at C21
          refine wp_call2 _ 45 _ _ _ rfl (ev_in rfl (by omega)) (ev_in rfl (by omega)) (enter_eqInts _ _ _) C21 ?_
          rintro e w21 ⟨rfl, k21⟩
          have n21 := k21.size
          have mh21 := mh.below k21
          refine ⟨_, rfl, ?_⟩
          refine hK _ _ ?_
          clear hK K
          refine m_mv rfl (wanted_rd rfl) (run_pickT' _ _ _ rfl (ev_in rfl (by omega)) (ev_in rfl (by omega)) _) ?_
          refine l_nx ?_
          refine c_false (ev_in rfl (by omega)) (c_finB ?_)
          refine c_region ?_
          refine m_mv rfl (wanted_rd rfl) (run_addI _ _ rfl (ev_out rfl b16) (ev_const _ _) (by omega) (by omega) _) ?_
          refine m_mv rfl (wanted_rd rfl) (run_move _ rfl (ev_in rfl (by omega)) _) ?_
          exact l_round ⟨3 - i - (x + 1), by omega, x + 1, by omega, by omega, (szL _ _).trans hs, (defL _ _).trans hd, (ev_out rfl b1), (ev_out rfl b7), (ev_out rfl b8), (ev_out rfl b3), (ev_out rfl b4r), (ev_out rfl b14), (ev_out rfl b15), (ev_in rfl (by omega)).trans (by rw [Int.natCast_add]; rfl), (fun p q h1 h2 h3 => by
            by_cases e : p = i ∧ q = i + 1 + x
            · rw [e.1, e.2]; exact hpk
            · exact hno p q h1 h2 (by omega)), mh21, kB3.trans (k21.mono (by omega)), by omega⟩
        · obtain ⟨mck, fck⟩ := fL_mem hfk
          have hok : hrO n.id n.fr L 5 24 (sO (i + 1) + x) = .slice ck.ao ck.m.L.length ck.cap := by rw [esO]; unfold hrO; rw [hfk]; rfl
          by_cases he : ci.m.L = ck.m.L
          · have hpk : pairL n L i (i + 1 + x) = some ci := by unfold pairL; rw [hfi, hfk]; exact if_pos he
            refine c_rs (m_start ?_)
            refine m_mv rfl (wanted_rd rfl) (run_lssI (b := true) _ _ rfl (ev_out rfl b16) (ev_out rfl b15) (decide_eq_true (by omega)) _) ?_
            refine l_nx ?_
            refine c_nx (c_true (ev_in rfl (by omega)) (c_fin ?_))
            refine c_nx (c_block ?_)
            refine c_rs ?_
            refine m_mv rfl (wanted_rd rfl) (run_ixLL _ _ rfl (ev_out rfl b14) (ev_out rfl b16) rfl hin3b _) ?_
            refine m_mv rfl (wanted_rd rfl) (run_lod1 _ _ rfl oneIs (ev_in rfl (by omega)) mh (by rw [sO_at hi3]; omega) hok) ?_
            refine m_mv rfl (wanted_rd rfl) (run_assign _ rfl (ev_in rfl (by omega)) _) ?_
            refine l_nx ?_
            refine c_rs ?_
            refine m_mv rfl (wanted_rd rfl) (run_move _ rfl (ev_out rfl b4) _) ?_
            refine m_mv rfl (wanted_rd rfl) (run_lenI _ rfl (ev_in rfl (by omega)) _) ?_
            refine m_mv rfl (wanted_rd rfl) (run_gtrI (b := true) _ _ rfl (ev_in rfl (by omega)) (ev_const _ _) (decide_eq_true (by omega)) _) ?_
            refine m_mv rfl (wanted_rd rfl) (run_move _ rfl (ev_in rfl (by omega)) _) ?_
            refine m_mv rfl (wanted_g (j := 3) rfl rfl rfl (ev_in rfl (by omega))) (run_move _ rfl (ev_out rfl b4) _) ?_
            refine m_mv rfl (wanted_g (j := 3) rfl rfl rfl (ev_in rfl (by omega))) (run_move _ rfl (ev_in rfl (by omega)) _) ?_
            refine m_do rfl (wanted_g (j := 3) rfl rfl rfl (ev_in rfl (by omega))) (fun K hK => ?_)
            have C21 := eqInts_any ci.m.L ck.m.L ci.ao ck.ao ci.cap ck.cap W3 (by have := (hmr.2 ci mci).2.2; omega) ((hmr.2 ci mci).below kB3).1 ((hmr.2 ck mck).below kB3).1
            rw [decide_eq_true he] at C21
            refine wp_call2 _ 45 _ _ _ rfl (ev_in rfl (by omega)) (ev_in rfl (by omega)) (enter_eqInts _ _ _) C21 ?_
            rintro e w21 ⟨rfl, k21⟩
            have n21 := k21.size
            have mh21 := mh.below k21
            refine ⟨_, rfl, ?_⟩
            refine hK _ _ ?_
            clear hK K
            refine m_mv rfl (wanted_rd rfl) (run_pickT' _ _ _ rfl (ev_in rfl (by omega)) (ev_in rfl (by omega)) _) ?_
            refine l_nx ?_
            refine c_true (ev_in rfl (by omega)) ?_
            refine c_rs ?_
            refine m_mv rfl (wanted_rd rfl) (run_move _ rfl (ev_out rfl b4) _) ?_
            refine m_mv rfl (wanted_rd rfl) (run_assign _ rfl (ev_in rfl (by omega)) _) ?_
            refine l_nx ?_
            refine c_ret ?_
            simp only [Nx, Exit.inBlock, Exit.then]
            refine ret_of ((defL _ _).trans hd) (res_t rfl (ev_in rfl (by omega))) ⟨?_, kB3.trans (k21.mono (by omega))⟩
            unfold alkV
            rw [alk_found (show i < i + 1 + x by omega) (by omega) hpk (fun p q h1 h2 h3 => hno p q h1 h2 h3)]
            rfl
          · have hpk : pairL n L i (i + 1 + x) = none := by unfold pairL; rw [hfi, hfk]; exact if_neg he
            refine c_rs (m_start ?_)
            refine m_mv rfl (wanted_rd rfl) (run_lssI (b := true) _ _ rfl (ev_out rfl b16) (ev_out rfl b15) (decide_eq_true (by omega)) _) ?_
            refine l_nx ?_
            refine c_nx (c_true (ev_in rfl (by omega)) (c_fin ?_))
            refine c_nx (c_block ?_)
            refine c_rs ?_
            refine m_mv rfl (wanted_rd rfl) (run_ixLL _ _ rfl (ev_out rfl b14) (ev_out rfl b16) rfl hin3b _) ?_
            refine m_mv rfl (wanted_rd rfl) (run_lod1 _ _ rfl oneIs (ev_in rfl (by omega)) mh (by rw [sO_at hi3]; omega) hok) ?_
            refine m_mv rfl (wanted_rd rfl) (run_assign _ rfl (ev_in rfl (by omega)) _) ?_
            refine l_nx ?_
            refine c_rs ?_
            refine m_mv rfl (wanted_rd rfl) (run_move _ rfl (ev_out rfl b4) _) ?_
            refine m_mv rfl (wanted_rd rfl) (run_lenI _ rfl (ev_in rfl (by omega)) _) ?_
            refine m_mv rfl (wanted_rd rfl) (run_gtrI (b := true) _ _ rfl (ev_in rfl (by omega)) (ev_const _ _) (decide_eq_true (by omega)) _) ?_
            refine m_mv rfl (wanted_rd rfl) (run_move _ rfl (ev_in rfl (by omega)) _) ?_
            refine m_mv rfl (wanted_g (j := 3) rfl rfl rfl (ev_in rfl (by omega))) (run_move _ rfl (ev_out rfl b4) _) ?_
            refine m_mv rfl (wanted_g (j := 3) rfl rfl rfl (ev_in rfl (by omega))) (run_move _ rfl (ev_in rfl (by omega)) _) ?_
            refine m_do rfl (wanted_g (j := 3) rfl rfl rfl (ev_in rfl (by omega))) (fun K hK => ?_)
            have C21 := eqInts_any ci.m.L ck.m.L ci.ao ck.ao ci.cap ck.cap W3 (by have := (hmr.2 ci mci).2.2; omega) ((hmr.2 ci mci).below kB3).1 ((hmr.2 ck mck).below kB3).1
            rw [decide_eq_false he] at C21
            refine wp_call2 _ 45 _ _ _ rfl (ev_in rfl (by omega)) (ev_in rfl (by omega)) (enter_eqInts _ _ _) C21 ?_
            rintro e w21 ⟨rfl, k21⟩
            have n21 := k21.size
            have mh21 := mh.below k21
            refine ⟨_, rfl, ?_⟩
            refine hK _ _ ?_
            clear hK K
            refine m_mv rfl (wanted_rd rfl) (run_pickT' _ _ _ rfl (ev_in rfl (by omega)) (ev_in rfl (by omega)) _) ?_
            refine l_nx ?_
            refine c_false (ev_in rfl (by omega)) (c_finB ?_)
            refine c_region ?_
            refine m_mv rfl (wanted_rd rfl) (run_addI _ _ rfl (ev_out rfl b16) (ev_const _ _) (by omega) (by omega) _) ?_
            refine m_mv rfl (wanted_rd rfl) (run_move _ rfl (ev_in rfl (by omega)) _) ?_
            exact l_round ⟨3 - i - (x + 1), by omega, x + 1, by omega, by omega, (szL _ _).trans hs, (defL _ _).trans hd, (ev_out rfl b1), (ev_out rfl b7), (ev_out rfl b8), (ev_out rfl b3), (ev_out rfl b4r), (ev_out rfl b14), (ev_out rfl b15), (ev_in rfl (by omega)).trans (by rw [Int.natCast_add]; rfl), (fun p q h1 h2 h3 => by
              by_cases e : p = i ∧ q = i + 1 + x
              · rw [e.1, e.2]; exact hpk
              · exact hno p q h1 h2 (by omega)), mh21, kB3.trans (k21.mono (by omega)), by omega⟩
    · refine c_rs (m_start ?_)
      refine m_mv rfl (wanted_rd rfl) (run_lssI (b := false) _ _ rfl (ev_out rfl b16) (ev_out rfl b15) (decide_eq_false (by omega)) _) ?_
      refine l_nx ?_
      refine c_nx (c_false (ev_in rfl (by omega)) (c_exit (x_out2 ?_)))
      refine c_region ?_
      refine m_mv rfl (wanted_rd rfl) (run_addI _ _ rfl (ev_out rfl b8) (ev_const _ _) (by omega) (by omega) _) ?_
      refine m_mv rfl (wanted_rd rfl) (run_move _ rfl (ev_in rfl (by omega)) _) ?_
      exact l_round ⟨4 - (i + 1), by omega, i + 1, by omega, by omega, (szL _ _).trans hs, (defL _ _).trans hd, (ev_out rfl b1), (ev_out rfl b7), (ev_in rfl (by omega)).trans (by rw [Int.natCast_add]; rfl), (fun p q h1 h2 h3 => hno p q h1 h2 (by omega)), mh, kB3, hW3⟩
  · refine c_rs (m_start ?_)
    refine m_mv rfl (wanted_rd rfl) (run_lssI (b := false) _ _ rfl (ev_out rfl b8) (ev_const _ _) (decide_eq_false (by omega)) _) ?_
    refine l_nx ?_
    refine c_nx (c_false (ev_in rfl (by omega)) (c_exit (x_out ?_)))
    refine c_rs ?_
    refine m_mv rfl (wanted_rd rfl) (run_assign _ rfl (ev_const _ _) _) ?_
    refine l_nx ?_
    refine c_ret (ret_of ((defL _ _).trans hd) (res_t rfl (ev_in rfl (by omega))) ⟨?_, kB⟩)
    unfold alkV
    rw [alk_none (fun p q h1 h2 => hno p q h1 h2 (by omega))]

end Go.Proofs.YtngmeaaglogieabGreat

namespace Go.Proofs.YtngmeaaglogieabGreat
open Go.RowKit

/-- The computer whose report is put out. -/
def cloR (n : Nd) (l : List Ms) : Nd := if noN n.id then zeroN else cloN n l
/-- Close. -/
def ClOK (fn : Nat) : Prop := ∀ (n : Nd) (ao : Option Addr) (c : Nat) (mo : Option Addr) (mc : Nat) (L : List Lm) (w : World), NdOK n → AgRd w n ao c → MRd w mo L → L.length ≤ 140737488351232 → L.length ≤ mc → (∀ m, m ∈ L → ∀ i, R64 (gL m.m.L i)) →
  Calls Tryz.prog fn #[ndV n (.slice ao n.vA.length c), .slice mo L.length mc] w fun e w' => ∃ a' c', e = .returned (.tuple #[ndV (cloN n (L.map Lm.m)) (.slice a' (cloN n (L.map Lm.m)).vA.length c'), agV (rpF (cloR n (L.map Lm.m))) 0 14]) ∧ AgNew w.heap.size w' (cloN n (L.map Lm.m)) a' c' ∧ Below w.heap.size w w'
/-- With what the first pair tells that is heard and alike. -/
def cloT (n : Nd) (L : List Lm) : Nd := match alk n L with | some c => if unOK c.m.L then { n with ax := unA c.m.L, rl := unR c.m.L } else n | none => n
theorem cloT_vA (n : Nd) (L : List Lm) : (cloT n L).vA = n.vA := by
  unfold cloT
  split
  · split <;> rfl
  · rfl
theorem pair_map (n : Nd) (L : List Lm) (p : Nat × Nat) : pairN n (L.map Lm.m) p = (pairL n L p.1 p.2).map (fun c => c.m.L) := by
  unfold pairN pairL
  have h1 := fL_frst n L p.1 5 24
  have h2 := fL_frst n L p.2 5 24
  rw [show ((24 : Nat) : Int) = 24 from rfl] at h1 h2
  rw [← h1, ← h2]
  cases fL n.id n.fr L (p.1 : Int) 5 24 with
  | none => rfl
  | some a =>
    cases fL n.id n.fr L (p.2 : Int) 5 24 with
    | none => rfl
    | some b =>
      show (if a.m.L = b.m.L then some a.m.L else none) = Option.map _ (if a.m.L = b.m.L then some a else none)
      split <;> rfl
theorem find_map {α β γ : Type} (g : α → Option β) (f : β → γ) (l : List α) : l.findSome? (fun p => (g p).map f) = (l.findSome? g).map f := by
  induction l with
  | nil => rfl
  | cons x l ih =>
    rw [List.findSome?_cons, List.findSome?_cons]
    cases g x with
    | none => exact ih
    | some b => rfl
theorem alk_map (n : Nd) (L : List Lm) : prs.findSome? (pairN n (L.map Lm.m)) = (alk n L).map (fun c => c.m.L) := by
  unfold alk
  rw [← find_map]
  congr 1
  funext p
  exact pair_map n L p
theorem clo_still {n : Nd} {l : List Ms} (hno : noN n.id = false) (h : ¬ (n.vS = true ∧ n.vX ≠ n.dg)) : cloN n l = n := by
  unfold cloN cloV
  rw [if_neg (by rw [hno]; decide), if_neg h]
theorem clo_take {n : Nd} {L : List Lm} (hno : noN n.id = false) (h : n.vS = true ∧ n.vX ≠ n.dg) : cloN n (L.map Lm.m) = cloT n L := by
  unfold cloN cloV cloT
  rw [if_neg (by rw [hno]; decide), if_pos h, alk_map]
  cases alk n L <;> rfl
theorem pair_mem {n : Nd} {L : List Lm} {p q : Nat} {c : Lm} (h : pairL n L p q = some c) : c ∈ L ∧ c.m.L.length = 24 := by
  unfold pairL at h
  cases h1 : fL n.id n.fr L (p : Int) 5 24 with
  | none => rw [h1] at h; cases h
  | some a =>
    rw [h1] at h
    cases h2 : fL n.id n.fr L (q : Int) 5 24 with
    | none => rw [h2] at h; cases h
    | some b =>
      rw [h2] at h
      dsimp only at h
      split at h
      · cases h
        obtain ⟨m, f⟩ := fL_mem h1
        exact ⟨m, by have := fit_len f; omega⟩
      · cases h
theorem alk_mem {n : Nd} {L : List Lm} {c : Lm} (h : alk n L = some c) : c ∈ L ∧ c.m.L.length = 24 := by
  unfold alk at h
  obtain ⟨p, _, hp⟩ := List.exists_of_findSome?_eq_some h
  exact pair_mem hp
theorem alk_row {n : Nd} {L : List Lm} {mo : Option Addr} {w : World} (hmr : MRd w mo L) : ∃ (to : Option Addr) (tc : Nat) (v : List Int), alkV (alk n L) = .slice to v.length tc ∧ Sr w to v.length tc (iF (gL v)) ∧ v.length ≤ tc ∧ movN n v = cloT n L := by
  cases h : alk n L with
  | none => exact ⟨none, 0, [], rfl, Or.inl ⟨rfl, rfl, rfl⟩, Nat.le_refl _, by unfold movN cloT; rw [h]; rfl⟩
  | some c =>
    obtain ⟨m, hl⟩ := alk_mem h
    refine ⟨c.ao, c.cap, c.m.L, rfl, (hmr.2 c m).1, (hmr.2 c m).2.1, ?_⟩
    unfold movN cloT
    rw [h, decide_eq_true hl, Bool.true_and]

end Go.Proofs.YtngmeaaglogieabGreat

namespace Go.Proofs.YtngmeaaglogieabGreat
open Go.RowKit

/-- The axes' numbers; the roll's, as they are reckoned. -/
def pkL (ax : Nat → St) : Nat → List Int
  | 0 => []
  | a + 1 => pkL ax a ++ axL (ax a)
def inP (b : Nat → Bool) : Nat → Int
  | 0 => 0
  | k + 1 => inP b k * 2 + if b (3 - k) then 1 else 0
theorem inP_in (b : Nat → Bool) (k : Nat) : 0 ≤ inP b k ∧ inP b k < 2 ^ k := by
  induction k with
  | zero => exact ⟨Int.le_refl 0, (by decide : (0 : Int) < 2 ^ 0)⟩
  | succ k ih =>
    have : (2 : Int) ^ (k + 1) = 2 ^ k * 2 := Int.pow_succ _ _
    show 0 ≤ inP b k * 2 + _ ∧ inP b k * 2 + _ < _
    rw [this]
    split <;> omega
theorem two_four {x : Nat} (h : x ≤ 4) : (2 : Int) ^ x ≤ 16 := by
  have : x = 0 ∨ x = 1 ∨ x = 2 ∨ x = 3 ∨ x = 4 := by omega
  rcases this with rfl | rfl | rfl | rfl | rfl <;> decide
theorem inP_four (b : Nat → Bool) : inP b 4 = inN b := by
  show ((((0 * 2 + if b 3 then (1 : Int) else 0) * 2 + if b 2 then 1 else 0) * 2 + if b 1 then 1 else 0) * 2 + if b 0 then 1 else 0) = _
  unfold inN
  cases b 0 <;> cases b 1 <;> cases b 2 <;> cases b 3 <;> rfl
theorem in_f {b : Nat → Bool} {x : Nat} (h : b (3 - x) = false) : (.int .i64 (inP b x * 2) : Value) = .int .i64 (inP b (x + 1)) := by
  show _ = Value.int .i64 (inP b x * 2 + if b (3 - x) then 1 else 0)
  rw [h, if_neg (by decide), Int.add_zero]
theorem in_t {b : Nat → Bool} {x : Nat} (h : b (3 - x) = true) : (.int .i64 (inP b x * 2 + 1) : Value) = .int .i64 (inP b (x + 1)) := by
  show _ = Value.int .i64 (inP b x * 2 + if b (3 - x) then 1 else 0)
  rw [h, if_pos rfl]
theorem nst_bent {s : St} {b : Bool} (h : s.B = b) : nstF s (0 + 5) = .bool b := by rw [← h]; rfl
theorem bent_f {s : St} (h : s.B = false) : (.int .i64 0 : Value) = .int .i64 (gL (axL s) 5) := by
  show _ = Value.int .i64 (if s.B then 1 else 0)
  rw [h]; rfl
theorem bent_t {s : St} (h : s.B = true) : (.int .i64 (0 + 1) : Value) = .int .i64 (gL (axL s) 5) := by
  show _ = Value.int .i64 (if s.B then 1 else 0)
  rw [h]; rfl
theorem pk_next (ax : Nat → St) (x : Nat) : (pkL ax (x + 1)).map iV = (pkL ax x).map iV ++ rowV (fun i => iV (gL (axL (ax x)) i)) 7 := by
  show (pkL ax x ++ axL (ax x)).map iV = _
  rw [List.map_append]
  rfl
theorem pk_all (ax : Nat → St) (r : Rl) : (pck ax r).map iV = (pkL ax 3).map iV ++ rowV (fun i => iV (gL [inP r.I 4, ctN8 r.M 4, ctN8 r.J 4] i)) 3 := by
  have e := inP_four r.I
  generalize inP r.I 4 = q at e
  subst e
  unfold pck
  rw [List.map_append]
  rfl
end Go.Proofs.YtngmeaaglogieabGreat

namespace Go.Proofs.YtngmeaaglogieabGreat
open Go.RowKit

def bz (b : Bool) : Int := if b then 1 else 0
theorem pbit_any (b : Bool) (w : World) : Calls Tryz.prog 37 #[.bool b] w fun e w' => e = .returned (.int .i64 (bz b)) ∧ Below w.heap.size w w' := by
  cases b
  · refine enterF Tryz.func37 rfl 4 rfl (of_decide_eq_true rfl) (fun A hs hd hb => ?_)
    have b0 := hb 0 _ rfl
    clear hb
    refine c_rs (m_start ?_)
    refine m_mv rfl (wanted_rd rfl) (run_assign _ rfl (ev_const _ _) _) ?_
    refine l_nx ?_
    refine c_nx ?_
    refine c_rs ?_
    refine m_mv rfl (wanted_rd rfl) (run_move _ rfl (ev_out rfl b0) _) ?_
    refine l_nx ?_
    refine c_false (ev_in rfl (by omega)) (c_fin ?_)
    refine c_rs ?_
    refine m_mv rfl (wanted_rd rfl) (run_assign _ rfl (ev_const _ _) _) ?_
    refine l_nx ?_
    refine c_ret ?_
    exact ret_of ((defL _ _).trans hd) (res_t rfl (ev_in rfl (by omega))) ⟨rfl, Below.refl _ _⟩
  · refine enterF Tryz.func37 rfl 4 rfl (of_decide_eq_true rfl) (fun A hs hd hb => ?_)
    have b0 := hb 0 _ rfl
    clear hb
    refine c_rs (m_start ?_)
    refine m_mv rfl (wanted_rd rfl) (run_assign _ rfl (ev_const _ _) _) ?_
    refine l_nx ?_
    refine c_nx ?_
    refine c_rs ?_
    refine m_mv rfl (wanted_rd rfl) (run_move _ rfl (ev_out rfl b0) _) ?_
    refine l_nx ?_
    refine c_true (ev_in rfl (by omega)) ?_
    refine c_rs ?_
    refine m_mv rfl (wanted_rd rfl) (run_assign _ rfl (ev_const _ _) _) ?_
    refine l_nx ?_
    refine c_ret ?_
    simp only [Nx, Exit.then]
    exact ret_of ((defL _ _).trans hd) (res_t rfl (ev_in rfl (by omega))) ⟨rfl, Below.refl _ _⟩
theorem run_shl1 {f : Operand → Value} {o : Oper} (x y : Operand) (ho : o.op = .binOp .shl 3 x y 3) {b : Bool} {i : Nat} (hx : f x = .int .i64 (bz b)) (hy : f y = .int .i64 (i : Int)) (hi : i < 4) (w : World) : (execOp f o).run Tryz.prog w = .ok (.value (.int .i64 (if b then 2 ^ i else 0))) w := by
  have : i = 0 ∨ i = 1 ∨ i = 2 ∨ i = 3 := by omega
  unfold execOp
  rw [ho]
  dsimp only
  rw [hx, hy]
  rcases this with rfl | rfl | rfl | rfl <;> cases b <;> (change _ = _; kernel_rfl)
theorem run_ixT {f : Operand → Value} {o : Oper} (x y : Operand) (ho : o.op = .indexAddr 33 x y) {b off n cap i : Nat} {z : Int} (hx : f x = .slice (some ⟨b, off, none⟩) n cap) (hy : f y = .int .i64 z) (hz : z = (i : Int)) (hi : i < n) (w : World) :
    (execOp f o).run Tryz.prog w = .ok (.value (.pointer (some ⟨b, off + i, none⟩))) w := by
  subst hz
  have hi2 : (i : Int) < n := by omega
  unfold execOp
  rw [ho]
  dsimp only
  rw [hx, hy]
  go_simp
theorem run_ixIa {f : Operand → Value} {o : Oper} (x y : Operand) (ho : o.op = .indexAddr 39 x y) {b off n cap i : Nat} {z : Int} (hx : f x = .slice (some ⟨b, off, none⟩) n cap) (hy : f y = .int .i64 z) (hz : z = (i : Int)) (hi : i < n) (w : World) :
    (execOp f o).run Tryz.prog w = .ok (.value (.pointer (some ⟨b, off + i, none⟩))) w := by
  subst hz
  have hi2 : (i : Int) < n := by omega
  unfold execOp
  rw [ho]
  dsimp only
  rw [hx, hy]
  go_simp
/-- Who is in, as a number, behind the first k. -/
def sN (b : Nat → Bool) : Nat → Int
  | 0 => 0
  | k + 1 => sN b k + (if b k then 2 ^ k else 0)
theorem sN_four (b : Nat → Bool) : sN b 4 = inN b := by
  show 0 + _ + _ + _ + _ = _
  unfold inN
  rw [Int.zero_add]
  rfl
theorem sN_in (b : Nat → Bool) {k : Nat} (hk : k ≤ 4) : 0 ≤ sN b k ∧ sN b k ≤ 15 ∧ (k < 4 → 0 ≤ (if b k then (2 : Int) ^ k else 0) ∧ (if b k then (2 : Int) ^ k else 0) ≤ 8) := by
  have h1 : ∀ (x : Bool) (i : Nat), 0 ≤ (if x then (2 : Int) ^ i else 0) ∧ (if x then (2 : Int) ^ i else 0) ≤ (2 : Int) ^ i := fun x i => by
    have : (0 : Int) ≤ 2 ^ i := Int.pow_nonneg (by decide)
    cases x
    · exact ⟨Int.le_refl _, this⟩
    · exact ⟨this, Int.le_refl _⟩
  have e0 := h1 (b 0) 0; have e1 := h1 (b 1) 1; have e2 := h1 (b 2) 2; have e3 := h1 (b 3) 3
  rw [show (2 : Int) ^ 0 = 1 from rfl] at e0
  rw [show (2 : Int) ^ 1 = 2 from rfl] at e1
  rw [show (2 : Int) ^ 2 = 4 from rfl] at e2
  rw [show (2 : Int) ^ 3 = 8 from rfl] at e3
  match k, hk with
  | 0, _ => exact ⟨Int.le_refl _, by show (0 : Int) ≤ 15; decide, fun _ => ⟨e0.1, by show (if b 0 then (1 : Int) else 0) ≤ 8; omega⟩⟩
  | 1, _ => exact ⟨by show 0 ≤ 0 + (if b 0 then (1 : Int) else 0); omega, by show 0 + (if b 0 then (1 : Int) else 0) ≤ 15; omega, fun _ => ⟨e1.1, by show (if b 1 then (2 : Int) else 0) ≤ 8; omega⟩⟩
  | 2, _ => exact ⟨by show 0 ≤ 0 + (if b 0 then (1 : Int) else 0) + (if b 1 then (2 : Int) else 0); omega, by show 0 + (if b 0 then (1 : Int) else 0) + (if b 1 then (2 : Int) else 0) ≤ 15; omega, fun _ => ⟨e2.1, by show (if b 2 then (4 : Int) else 0) ≤ 8; omega⟩⟩
  | 3, _ => exact ⟨by show 0 ≤ 0 + (if b 0 then (1 : Int) else 0) + (if b 1 then (2 : Int) else 0) + (if b 2 then (4 : Int) else 0); omega, by show 0 + (if b 0 then (1 : Int) else 0) + (if b 1 then (2 : Int) else 0) + (if b 2 then (4 : Int) else 0) ≤ 15; omega, fun _ => ⟨e3.1, e3.2⟩⟩
  | 4, _ => exact ⟨by show 0 ≤ 0 + (if b 0 then (1 : Int) else 0) + (if b 1 then (2 : Int) else 0) + (if b 2 then (4 : Int) else 0) + (if b 3 then (8 : Int) else 0); omega, by show 0 + (if b 0 then (1 : Int) else 0) + (if b 1 then (2 : Int) else 0) + (if b 2 then (4 : Int) else 0) + (if b 3 then (8 : Int) else 0) ≤ 15; omega, fun h => absurd h (by omega)⟩
theorem setNumber_any (b o N cap : Nat) (t : TypeId) (g : Nat → Value) (c : Nat → Bool) (w : World) (hm : Vh t w b N cap g) (ho : o + 4 ≤ N) (hg : ∀ i, i < 4 → g (o + i) = .bool (c i)) :
    Calls Tryz.prog 38 #[.slice (some ⟨b, o, none⟩) 4 4] w fun e w' => e = .returned (.int .i64 (inN c)) ∧ Below w.heap.size w w' := by
  refine enterF Tryz.func38 rfl 21 rfl (of_decide_eq_true rfl) (fun A hs hd hb => ?_)
  have b0 := hb 0 _ rfl
  clear hb
  refine c_rs (m_start ?_)
  refine m_mv rfl (wanted_rd rfl) (run_assign _ rfl (ev_const _ _) _) ?_
  refine l_nx ?_
  refine c_rs ?_
  refine m_mv rfl (wanted_rd rfl) (run_assign _ rfl (ev_const _ _) _) ?_
  refine l_nx ?_
  refine c_nx ?_
  refine c_rs ?_
  refine m_mv rfl (wanted_rd rfl) (run_move _ rfl (ev_out rfl b0) _) ?_
  refine m_mv rfl (wanted_rd rfl) (run_lenT _ rfl (ev_in rfl (by omega)) _) ?_
  refine m_mv rfl (wanted_rd rfl) (run_move _ rfl (ev_const _ _) _) ?_
  refine l_nx ?_
  refine c_block ?_
  refine c_loop (fun r a W => ∃ i : Nat, i ≤ 4 ∧ 4 - i ≤ r ∧ a.tmps.size = 21 ∧ a.defers = [] ∧ a.eval (.tmp 6) = .slice (some ⟨b, o, none⟩) 4 4 ∧ a.eval (.tmp 7) = .int .i64 ((4 : Nat) : Int) ∧ a.eval (.tmp 8) = .int .i64 (i : Int) ∧ a.eval (.tmp 3) = .int .i64 (sN c i) ∧ Below w.heap.size w W) 4 ⟨0, by omega, by omega, (szL _ _).trans hs, (defL _ _).trans hd, (ev_in rfl (by omega)), (ev_in rfl (by omega)), (ev_in rfl (by omega)), (ev_in rfl (by omega)), Below.refl _ _⟩ (fun r B W hI => ?_)
  clear b0 hs hd
  obtain ⟨i, hi, hr2, hs, hd, b6, b7, b8, b3, kB⟩ := hI
  have hWs := kB.size
  by_cases hin : i < 4
  · refine c_rs (m_start ?_)
    refine m_mv rfl (wanted_rd rfl) (run_lssI (b := true) _ _ rfl (ev_out rfl b8) (ev_out rfl b7) (decide_eq_true (by omega)) _) ?_
    refine l_nx ?_
    refine c_nx (c_true (ev_in rfl (by omega)) (c_fin ?_))
    refine c_nx (c_block ?_)
    refine c_rs ?_
    refine m_mv rfl (wanted_rd rfl) (run_move _ rfl (ev_out rfl b8) _) ?_
    refine m_mv rfl (wanted_rd rfl) (run_ixT _ _ rfl (ev_out rfl b6) (ev_out rfl b8) rfl hin _) ?_
    refine m_mv rfl (wanted_rd rfl) (run_lod1 _ _ rfl oneB (ev_in rfl (by omega)) (hm.below kB) (by omega) (hg i hin)) ?_
    refine m_mv rfl (wanted_rd rfl) (run_assign _ rfl (ev_in rfl (by omega)) _) ?_
    refine m_mv rfl (wanted_rd rfl) (run_assign _ rfl (ev_in rfl (by omega)) _) ?_
    refine l_nx ?_
    refine c_region ?_
    refine m_mv rfl (wanted_rd rfl) (run_move _ rfl (ev_out rfl b3) _) ?_
    refine m_mv rfl (wanted_rd rfl) (run_move _ rfl (ev_in rfl (by omega)) _) ?_
    refine m_do rfl (wanted_rd rfl) (fun K hK => ?_)
    refine wp_call1 _ 37 _ _ rfl (ev_in rfl (by omega)) (enter_pbit _ _) (pbit_any _ _) ?_
    rintro e w1 ⟨rfl, k1⟩
    have n1 := k1.size
    refine ⟨_, rfl, ?_⟩
    refine hK _ _ ?_
    clear hK K
    refine m_mv rfl (wanted_rd rfl) (run_move _ rfl (ev_in rfl (by omega)) _) ?_
    refine m_mv rfl (wanted_rd rfl) (run_shl1 _ _ rfl (ev_in rfl (by omega)) (ev_in rfl (by omega)) hin _) ?_
    refine m_mv rfl (wanted_rd rfl) (run_addI _ _ rfl (ev_in rfl (by omega)) (ev_in rfl (by omega)) (by have := sN_in c hi; have := this.2.2 hin; omega) (by have := sN_in c hi; have := this.2.2 hin; omega) _) ?_
    refine m_mv rfl (wanted_rd rfl) (run_assign _ rfl (ev_in rfl (by omega)) _) ?_
    refine l_finB ?_
    refine c_region ?_
    refine m_mv rfl (wanted_rd rfl) (run_addI _ _ rfl (ev_out rfl b8) (ev_const _ _) (by omega) (by omega) _) ?_
    refine m_mv rfl (wanted_rd rfl) (run_move _ rfl (ev_in rfl (by omega)) _) ?_
    exact l_round ⟨4 - (i + 1), by omega, i + 1, by omega, by omega, (szL _ _).trans hs, (defL _ _).trans hd, (ev_out rfl b6), (ev_out rfl b7), (ev_in rfl (by omega)).trans (by rw [Int.natCast_add]; rfl), (ev_in rfl (by omega)), kB.trans (k1.mono (by omega))⟩
  · refine c_rs (m_start ?_)
    refine m_mv rfl (wanted_rd rfl) (run_lssI (b := false) _ _ rfl (ev_out rfl b8) (ev_out rfl b7) (decide_eq_false (by omega)) _) ?_
    obtain rfl : i = 4 := by omega
    refine l_nx ?_
    refine c_nx (c_false (ev_in rfl (by omega)) (c_exit (x_out ?_)))
    refine c_rs ?_
    refine m_mv rfl (wanted_rd rfl) (run_move _ rfl (ev_out rfl b3) _) ?_
    refine m_mv rfl (wanted_rd rfl) (run_assign _ rfl (ev_in rfl (by omega)) _) ?_
    refine l_nx ?_
    exact c_ret (ret_of ((defL _ _).trans hd) (res_t rfl (ev_in rfl (by omega))) ⟨by rw [sN_four], kB⟩)
theorem countNumber_any (b o N cap : Nat) (t : TypeId) (g : Nat → Value) (c : Nat → Int) (w : World) (hm : Vh t w b N cap g) (ho : o + 4 ≤ N) (hg : ∀ i, i < 4 → g (o + i) = .int .i64 (c i)) :
    Calls Tryz.prog 39 #[.slice (some ⟨b, o, none⟩) 4 4] w fun e w' => e = .returned (.int .i64 (ctN8 c 4)) ∧ Below w.heap.size w w' := by
  refine enterF Tryz.func39 rfl 18 rfl (of_decide_eq_true rfl) (fun A hs hd hb => ?_)
  have b0 := hb 0 _ rfl
  clear hb
  refine c_rs (m_start ?_)
  refine m_mv rfl (wanted_rd rfl) (run_assign _ rfl (ev_const _ _) _) ?_
  refine l_nx ?_
  refine c_rs ?_
  refine m_mv rfl (wanted_rd rfl) (run_assign _ rfl (ev_const _ _) _) ?_
  refine l_nx ?_
  refine c_nx ?_
  refine c_rs ?_
  refine m_mv rfl (wanted_rd rfl) (run_move _ rfl (ev_out rfl b0) _) ?_
  refine m_mv rfl (wanted_rd rfl) (run_lenI _ rfl (ev_in rfl (by omega)) _) ?_
  refine m_mv rfl (wanted_rd rfl) (run_move _ rfl (ev_const _ _) _) ?_
  refine l_nx ?_
  refine c_block ?_
  refine c_loop (fun r a W => ∃ i : Nat, i ≤ 4 ∧ 4 - i ≤ r ∧ a.tmps.size = 18 ∧ a.defers = [] ∧ a.eval (.tmp 6) = .slice (some ⟨b, o, none⟩) 4 4 ∧ a.eval (.tmp 7) = .int .i64 ((4 : Nat) : Int) ∧ a.eval (.tmp 8) = .int .i64 (i : Int) ∧ a.eval (.tmp 3) = .int .i64 (ctN8 c i) ∧ Below w.heap.size w W) 4 ⟨0, by omega, by omega, (szL _ _).trans hs, (defL _ _).trans hd, (ev_in rfl (by omega)), (ev_in rfl (by omega)), (ev_in rfl (by omega)), (ev_in rfl (by omega)), Below.refl _ _⟩ (fun r B W hI => ?_)
  clear b0 hs hd
  obtain ⟨i, hi, hr2, hs, hd, b6, b7, b8, b3, kB⟩ := hI
  have hWs := kB.size
  by_cases hin : i < 4
  · refine c_rs (m_start ?_)
    refine m_mv rfl (wanted_rd rfl) (run_lssI (b := true) _ _ rfl (ev_out rfl b8) (ev_out rfl b7) (decide_eq_true (by omega)) _) ?_
    refine l_nx ?_
    refine c_nx (c_true (ev_in rfl (by omega)) (c_fin ?_))
    refine c_nx (c_block ?_)
    refine c_rs ?_
    refine m_mv rfl (wanted_rd rfl) (run_ixIa _ _ rfl (ev_out rfl b6) (ev_out rfl b8) rfl hin _) ?_
    refine m_mv rfl (wanted_rd rfl) (run_lod1 _ _ rfl oneI (ev_in rfl (by omega)) (hm.below kB) (by omega) (hg i hin)) ?_
    refine m_mv rfl (wanted_rd rfl) (run_assign _ rfl (ev_in rfl (by omega)) _) ?_
    refine l_nx ?_
    refine c_region ?_
    refine m_mv rfl (wanted_rd rfl) (run_move _ rfl (ev_out rfl b3) _) ?_
    refine m_mv rfl (wanted_rd rfl) (run_mulW _ _ rfl (ev_in rfl (by omega)) (ev_const _ _) _) ?_
    refine m_mv rfl (wanted_rd rfl) (run_move _ rfl (ev_in rfl (by omega)) _) ?_
    refine m_mv rfl (wanted_rd rfl) (run_addW _ _ rfl (ev_in rfl (by omega)) (ev_in rfl (by omega)) _) ?_
    refine m_mv rfl (wanted_rd rfl) (run_assign _ rfl (ev_in rfl (by omega)) _) ?_
    refine l_finB ?_
    refine c_region ?_
    refine m_mv rfl (wanted_rd rfl) (run_addI _ _ rfl (ev_out rfl b8) (ev_const _ _) (by omega) (by omega) _) ?_
    refine m_mv rfl (wanted_rd rfl) (run_move _ rfl (ev_in rfl (by omega)) _) ?_
    exact l_round ⟨4 - (i + 1), by omega, i + 1, by omega, by omega, (szL _ _).trans hs, (defL _ _).trans hd, (ev_out rfl b6), (ev_out rfl b7), (ev_in rfl (by omega)).trans (by rw [Int.natCast_add]; rfl), (ev_in rfl (by omega)).trans (by show Value.int .i64 (wrap64 (wrap64 (ctN8 c i * 8) + c i)) = .int .i64 (wrap64 (wrap64 (8 * ctN8 c i) + c i)); rw [Int.mul_comm]), kB⟩
  · refine c_rs (m_start ?_)
    refine m_mv rfl (wanted_rd rfl) (run_lssI (b := false) _ _ rfl (ev_out rfl b8) (ev_out rfl b7) (decide_eq_false (by omega)) _) ?_
    obtain rfl : i = 4 := by omega
    refine l_nx ?_
    refine c_nx (c_false (ev_in rfl (by omega)) (c_exit (x_out ?_)))
    refine c_rs ?_
    refine m_mv rfl (wanted_rd rfl) (run_move _ rfl (ev_out rfl b3) _) ?_
    refine m_mv rfl (wanted_rd rfl) (run_assign _ rfl (ev_in rfl (by omega)) _) ?_
    refine l_nx ?_
    exact c_ret (ret_of ((defL _ _).trans hd) (res_t rfl (ev_in rfl (by omega))) ⟨rfl, kB⟩)
/-- The axes' cells. -/
def naxF (ax : Nat → St) (j : Nat) : Value := nstF (ax (j / 7)) (j % 7)
theorem nax_part (ax : Nat → St) {x : Nat} : agV (naxF ax) (x * 7) 7 = agV (nstF (ax x)) 0 7 := by
  unfold agV naxF
  congr 2
  refine List.map_congr_left (fun j hj => ?_)
  have := List.mem_range.1 hj
  rw [show (x * 7 + j) / 7 = x by omega, show (x * 7 + j) % 7 = j by omega, Nat.zero_add]
theorem pk_allS (ax : Nat → St) (r : Rl) : (pck ax r).map iV = (pkL ax 3).map iV ++ rowV (fun i => iV (gL [inN r.I, ctN8 r.M 4, ctN8 r.J 4] i)) 3 := by
  unfold pck
  rw [List.map_append]
  rfl
theorem nrl_in (r : Rl) {i : Nat} (hi : i < 4) : nrlF r (0 + 0 + i) = .bool (r.I i) := by unfold nrlF; rw [if_pos (by omega), show 0 + 0 + i = i by omega]
theorem nrl_mi (r : Rl) {i : Nat} (hi : i < 4) : nrlF r (0 + 4 + i) = .int .i64 (r.M i) := by unfold nrlF; rw [if_neg (by omega), if_pos (by omega), show 0 + 4 + i - 4 = i by omega]; rfl
theorem nrl_jo (r : Rl) {i : Nat} (hi : i < 4) : nrlF r (0 + 8 + i) = .int .i64 (r.J i) := by unfold nrlF; rw [if_neg (by omega), if_neg (by omega), show 0 + 8 + i - 8 = i by omega]; rfl
set_option maxHeartbeats 2000000 in
theorem numbers_any (ax : Nat → St) (r : Rl) (w : World) : Calls Tryz.prog 22 #[agV (naxF ax) 0 21, agV (nrlF r) 0 12] w fun e w' => ∃ ao c, e = .returned (.slice ao 24 c) ∧ w'.ownsRow w.heap.size 3 1 (.slice ao 24 c) 24 (rowV (iF (gL (pck ax r))) 24) ∧ Below w.heap.size w w' := by
  refine enterF Tryz.func22 rfl 43 rfl (of_decide_eq_true rfl) (fun A hs hd hb => ?_)
  have b0 := hb 0 _ rfl
  have b1 := hb 1 _ rfl
  clear hb
  refine c_rs (m_start ?_)
  refine m_do rfl (wanted_rd rfl) (fun K hK => ?_)
  refine wp_boxG _ _ _ rfl (ev_out rfl b0) (of_decide_eq_true rfl) ?_
  intro w1 m1 k1 z1
  refine hK _ _ ?_
  clear hK K
  refine m_do rfl (wanted_rd rfl) (fun K hK => ?_)
  refine wp_boxG _ _ _ rfl (ev_out rfl b1) (of_decide_eq_true rfl) ?_
  intro w2 m2 k2 z2
  have mx2 := m1.below k2
  refine hK _ _ ?_
  clear hK K
  refine m_mv rfl (wanted_rd rfl) (run_assign _ rfl (ev_const _ _) _) ?_
  refine l_nx ?_
  refine c_rs ?_
  refine m_mv rfl (wanted_rd rfl) (run_assign _ rfl (ev_const _ _) _) ?_
  refine l_nx ?_
  refine c_nx ?_
  refine c_rs ?_
  refine m_mv rfl (wanted_rd rfl) (run_loadP _ _ rfl manyAx (ev_in rfl (by omega)) mx2 (by decide)) ?_
  refine m_mv rfl (wanted_rd rfl) (run_move _ rfl (ev_const _ _) _) ?_
  refine l_nx ?_
  refine c_block ?_
  refine c_loop (fun q a W => ∃ (x : Nat) (v : Value), x ≤ 3 ∧ 3 - x ≤ q ∧ a.tmps.size = 43 ∧ a.defers = [] ∧ a.eval (.tmp 3) = .pointer (some ⟨w1.heap.size, 0, none⟩) ∧ a.eval (.tmp 8) = agV (naxF ax) 0 21 ∧ a.eval (.tmp 9) = .int .i64 (x : Int) ∧ a.eval (.tmp 5) = v ∧ Vh 30 W w1.heap.size 12 12 (nrlF r) ∧ W.ownsRow w2.heap.size 3 1 v (7 * x) ((pkL ax x).map iV) ∧ Below w.heap.size w W ∧ w2.heap.size ≤ W.heap.size) 3 ⟨0, _, by omega, by omega, (szL _ _).trans hs, (defL _ _).trans hd, (ev_in rfl (by omega)), (ev_in rfl (by omega)), (ev_in rfl (by omega)), (ev_in rfl (by omega)), m2, World.ownsRow_nil _ _ _ _, k1.trans (k2.mono (by omega)), by omega⟩ (fun q B W hI => ?_)
  clear b0 b1 hs hd
  obtain ⟨x, v, hx, hr2, hs, hd, b3, b8, b9, b5, mr, ov, kB, hW⟩ := hI
  by_cases hin : x < 3
  · refine c_rs (m_start ?_)
    refine m_mv rfl (wanted_rd rfl) (run_lssI (b := true) _ _ rfl (ev_out rfl b9) (ev_const _ _) (decide_eq_true (by omega)) _) ?_
    refine l_nx ?_
    refine c_nx (c_true (ev_in rfl (by omega)) (c_fin ?_))
    refine c_nx (c_block ?_)
    refine c_rs ?_
    refine m_mv rfl (wanted_rd rfl) ((run_ixVM _ _ _ _ rfl Tryz.underlying26 manySt (ev_out rfl b8) rfl (ev_out rfl b9) rfl hin _).trans (by rw [nax_part ax])) ?_
    refine m_do rfl (wanted_rd rfl) (fun K hK => ?_)
    refine wp_allocG _ _ rfl zeroSt (of_decide_eq_true rfl) ?_
    intro w11 m11 k11 z11
    have mr11 := mr.below k11
    have ov11 := rw_below ov k11
    refine hK _ _ ?_
    clear hK K
    refine m_st (wanted_rd rfl) (fun K hK => ?_)
    refine wp_storeP _ _ _ _ rfl manySt (ev_in rfl (by omega)) (ev_in rfl (by omega)) m11 (by decide) (nstF_one _) rfl ?_
    intro w12 mm12 k12 z12
    have ms12 := Vh.congr mm12 (stP_all7 _ _)
    have mr12 := mr11.kept k12 (by omega)
    have ov12 := rw_kept ov11 k12 (fun e => by have e2 := (ov.lt _ e).2; omega)
    refine hK _ ?_
    clear hK K
    refine l_nx ?_
    have hS0 : (fun Z => Vh 25 Z W.heap.size 7 7 (nstF (ax x))) w12.drew := ms12
    have mr0 : Vh _ w12.drew _ _ _ _ := mr12
    have ms0 : Vh _ w12.drew _ _ _ _ := ms12
    have ov0 := (show World.ownsRow w12.drew _ _ _ _ _ _ from ov12)
    have ez : w12.drew.heap.size = w12.heap.size := rfl
    refine c_rj (S := fun Z => Vh 25 Z W.heap.size 7 7 (nstF (ax x))) (.mv 0 (.mv 1 (.rd 2 (.mv 3 (.rd 4 (.mv 5 (.rd 6 (.mv 7 (.rd 8 (.mv 9 (.rd 10 (.mv 11 (.rd 12 (.mv 14 (.rd 15 (.go 13 (.go 16 (.go 17 (.mv 18 .fin))))))))))))))))))) [17] (by kernel_rfl) (by kernel_rfl) ?_
    refine j_mv rfl rfl (fun _ _ _ h => h) (wanted_rd rfl) (fun _ => run_move _ rfl (ev_out rfl b5) _) ?_
    refine j_mv rfl rfl (fun _ _ _ h => h) (wanted_rd rfl) (fun _ => fldSt0 rfl (ev_in rfl (by omega)) _) ?_
    refine j_rd rfl rfl (fun _ _ _ h => h) (wanted_rd rfl) hS0 (fun _ hS => run_lod1 _ _ rfl oneI (ev_in rfl (by omega)) hS (by decide) rfl) ?_
    refine j_mv rfl rfl (fun _ _ _ h => h) (wanted_rd rfl) (fun _ => fldSt1 rfl (ev_in rfl (by omega)) _) ?_
    refine j_rd rfl rfl (fun _ _ _ h => h) (wanted_rd rfl) hS0 (fun _ hS => run_lod1 _ _ rfl oneI (ev_in rfl (by omega)) hS (by decide) rfl) ?_
    refine j_mv rfl rfl (fun _ _ _ h => h) (wanted_rd rfl) (fun _ => fldSt2 rfl (ev_in rfl (by omega)) _) ?_
    refine j_rd rfl rfl (fun _ _ _ h => h) (wanted_rd rfl) hS0 (fun _ hS => run_lod1 _ _ rfl oneI (ev_in rfl (by omega)) hS (by decide) rfl) ?_
    refine j_mv rfl rfl (fun _ _ _ h => h) (wanted_rd rfl) (fun _ => fldSt3 rfl (ev_in rfl (by omega)) _) ?_
    refine j_rd rfl rfl (fun _ _ _ h => h) (wanted_rd rfl) hS0 (fun _ hS => run_lod1 _ _ rfl oneI (ev_in rfl (by omega)) hS (by decide) rfl) ?_
    refine j_mv rfl rfl (fun _ _ _ h => h) (wanted_rd rfl) (fun _ => fldSt4 rfl (ev_in rfl (by omega)) _) ?_
    refine j_rd rfl rfl (fun _ _ _ h => h) (wanted_rd rfl) hS0 (fun _ hS => run_lod1 _ _ rfl oneI (ev_in rfl (by omega)) hS (by decide) rfl) ?_
    refine j_mv rfl rfl (fun _ _ _ h => h) (wanted_rd rfl) (fun _ => fldSt5 rfl (ev_in rfl (by omega)) _) ?_
    refine j_rd rfl rfl (fun _ _ _ h => h) (wanted_rd rfl) hS0 (fun _ hS => run_lod1 _ _ rfl oneB (ev_in rfl (by omega)) hS (by decide) rfl) ?_
    refine j_mv rfl rfl (fun _ _ _ h => h) (wanted_rd rfl) (fun _ => fldSt6 rfl (ev_in rfl (by omega)) _) ?_
    refine j_rd rfl rfl (fun _ _ _ h => h) (wanted_rd rfl) hS0 (fun _ hS => run_lod1 _ _ rfl oneI (ev_in rfl (by omega)) hS (by decide) rfl) ?_
    refine j_do rfl rfl (wanted_rd rfl) (fun K hK => ?_)
    refine wp_call1 _ 37 _ _ rfl (ev_in rfl (by omega)) (enter_pbit _ _) (pbit_any (ax x).B _) ?_
    rintro e w13 ⟨rfl, k13⟩
    have n13 := k13.size
    have mr13 := mr0.below k13
    have ms13 := hS0.below k13
    have ov13 := rw_below ov0 k13
    have hS13 : (fun Z => Vh 25 Z W.heap.size 7 7 (nstF (ax x))) w13 := ms13
    refine ⟨_, rfl, ?_⟩
    refine hK _ _ (fun _ _ => hS13) ?_
    clear hK K
    refine j_do rfl rfl (wanted_rd rfl) (fun K hK => ?_)
    refine wp_row7 _ _ _ _ _ _ _ _ rfl (g := gL (axL (ax x))) (ev_in rfl (by omega)) (ev_in rfl (by omega)) (ev_in rfl (by omega)) (ev_in rfl (by omega)) (ev_in rfl (by omega)) (ev_in rfl (by omega)) (ev_in rfl (by omega)) ?_
    intro w14 m14 k14 z14
    have mr14 := mr13.below k14
    have ms14 := ms13.below k14
    have ov14 := rw_below ov13 k14
    have hS14 : (fun Z => Vh 25 Z W.heap.size 7 7 (nstF (ax x))) w14 := ms14
    refine hK _ _ (fun _ _ => hS14) ?_
    clear hK K
    refine j_do rfl rfl (wanted_rd rfl) (fun K hK => ?_)
    refine ⟨wp_joinI _ _ _ rfl w2.heap.size (by omega) v _ _ (ev_in rfl (by omega)) ov14 _ 7 7 _ (ev_in rfl (by omega)) (Or.inr ⟨_, rfl, fun i hi => by rw [add_at, Nat.zero_add]; exact m14.cell hi⟩) (fun i _ => rfl) (by omega) ?_⟩
    intro v15 w15 ov15 k15
    have n15 := k15.size
    have mr15 := mr14.same (k15.block _ (by omega))
    rw [← pk_next] at ov15
    refine hK _ _ (fun h => absurd h (by decide)) ?_
    clear hK K
    refine j_mv rfl rfl (fun _ _ _ h => h) (wanted_rd rfl) (fun _ => run_assign _ rfl (ev_in rfl (by omega)) _) ?_
    refine j_finB ?_
    refine c_region ?_
    refine m_mv rfl (wanted_rd rfl) (run_addI _ _ rfl (ev_out rfl b9) (ev_const _ _) (by omega) (by omega) _) ?_
    refine m_mv rfl (wanted_rd rfl) (run_move _ rfl (ev_in rfl (by omega)) _) ?_
    exact l_round ⟨3 - (x + 1), by omega, x + 1, _, by omega, by omega, (szL _ _).trans hs, (defL _ _).trans hd, (ev_out rfl b3), (ev_out rfl b8), (ev_in rfl (by omega)).trans (by rw [Int.natCast_add]; rfl), (ev_in rfl (by omega)), mr15, ov15, (((below_drew (below_of_kept (kB.trans (k11.mono (by omega))) k12 (by omega) (by omega))).trans (k13.mono (by omega))).trans (k14.mono (by omega))).trans (k15.mono (by omega)), by omega⟩
  · refine c_rs (m_start ?_)
    refine m_mv rfl (wanted_rd rfl) (run_lssI (b := false) _ _ rfl (ev_out rfl b9) (ev_const _ _) (decide_eq_false (by omega)) _) ?_
    obtain rfl : x = 3 := by omega
    refine l_nx ?_
    refine c_nx (c_false (ev_in rfl (by omega)) (c_exit (x_out ?_)))
    refine c_nx ?_
    have hS0 : (fun Z => Vh 30 Z w1.heap.size 12 12 (nrlF r)) W.drew := mr
    have mr0 : Vh _ W.drew _ _ _ _ := mr
    have ov0 := (show World.ownsRow W.drew _ _ _ _ _ _ from ov)
    have ez : W.drew.heap.size = W.heap.size := rfl
    refine c_rj (S := fun Z => Vh 30 Z w1.heap.size 12 12 (nrlF r)) (.mv 0 (.mv 1 (.mv 2 (.mv 4 (.mv 5 (.mv 7 (.mv 8 (.go 3 (.go 6 (.go 9 (.go 10 (.go 11 (.mv 12 .fin))))))))))))) [] (by kernel_rfl) (by kernel_rfl) ?_
    refine j_mv rfl rfl (fun _ _ _ h => h) (wanted_rd rfl) (fun _ => run_move _ rfl (ev_out rfl b5) _) ?_
    refine j_mv rfl rfl (fun _ _ _ h => h) (wanted_rd rfl) (fun _ => fldRl0 rfl (ev_out rfl b3) _) ?_
    refine j_mv rfl rfl (fun _ _ _ h => h) (wanted_rd rfl) (fun _ => run_cutB4 _ rfl (ev_in rfl (by omega)) _) ?_
    refine j_mv rfl rfl (fun _ _ _ h => h) (wanted_rd rfl) (fun _ => fldRl1 rfl (ev_out rfl b3) _) ?_
    refine j_mv rfl rfl (fun _ _ _ h => h) (wanted_rd rfl) (fun _ => run_cut4 _ rfl (ev_in rfl (by omega)) _) ?_
    refine j_mv rfl rfl (fun _ _ _ h => h) (wanted_rd rfl) (fun _ => fldRl2 rfl (ev_out rfl b3) _) ?_
    refine j_mv rfl rfl (fun _ _ _ h => h) (wanted_rd rfl) (fun _ => run_cut4 _ rfl (ev_in rfl (by omega)) _) ?_
    refine j_do rfl rfl (wanted_rd rfl) (fun K hK => ?_)
    refine wp_call1 _ 38 _ _ rfl (ev_in rfl (by omega)) (enter_psetNumber _ _) (setNumber_any _ (0 + 0) 12 12 _ _ r.I _ hS0 (by decide) (fun i hi => nrl_in r hi)) ?_
    rintro e w11 ⟨rfl, k11⟩
    have n11 := k11.size
    have mr11 := hS0.below k11
    have ov11 := rw_below ov0 k11
    have hS11 : (fun Z => Vh 30 Z w1.heap.size 12 12 (nrlF r)) w11 := mr11
    refine ⟨_, rfl, ?_⟩
    refine hK _ _ (fun _ _ => hS11) ?_
    clear hK K
    refine j_do rfl rfl (wanted_rd rfl) (fun K hK => ?_)
    refine wp_call1 _ 39 _ _ rfl (ev_in rfl (by omega)) (enter_pcountNumber _ _) (countNumber_any _ (0 + 4) 12 12 _ _ r.M _ mr11 (by decide) (fun i hi => nrl_mi r hi)) ?_
    rintro e w12 ⟨rfl, k12⟩
    have n12 := k12.size
    have mr12 := mr11.below k12
    have ov12 := rw_below ov11 k12
    have hS12 : (fun Z => Vh 30 Z w1.heap.size 12 12 (nrlF r)) w12 := mr12
    refine ⟨_, rfl, ?_⟩
    refine hK _ _ (fun _ _ => hS12) ?_
    clear hK K
    refine j_do rfl rfl (wanted_rd rfl) (fun K hK => ?_)
    refine wp_call1 _ 39 _ _ rfl (ev_in rfl (by omega)) (enter_pcountNumber _ _) (countNumber_any _ (0 + 8) 12 12 _ _ r.J _ mr12 (by decide) (fun i hi => nrl_jo r hi)) ?_
    rintro e w13 ⟨rfl, k13⟩
    have n13 := k13.size
    have mr13 := mr12.below k13
    have ov13 := rw_below ov12 k13
    have hS13 : (fun Z => Vh 30 Z w1.heap.size 12 12 (nrlF r)) w13 := mr13
    refine ⟨_, rfl, ?_⟩
    refine hK _ _ (fun _ _ => hS13) ?_
    clear hK K
    refine j_do rfl rfl (wanted_rd rfl) (fun K hK => ?_)
    refine wp_row3 _ _ _ _ rfl (g := gL [inN r.I, ctN8 r.M 4, ctN8 r.J 4]) (ev_in rfl (by omega)) (ev_in rfl (by omega)) (ev_in rfl (by omega)) ?_
    intro w14 m14 k14 z14
    have mr14 := mr13.below k14
    have ov14 := rw_below ov13 k14
    have hS14 : (fun Z => Vh 30 Z w1.heap.size 12 12 (nrlF r)) w14 := mr14
    refine hK _ _ (fun _ _ => hS14) ?_
    clear hK K
    refine j_do rfl rfl (wanted_rd rfl) (fun K hK => ?_)
    refine ⟨wp_joinI _ _ _ rfl w2.heap.size (by omega) v _ _ (ev_in rfl (by omega)) ov14 _ 3 3 _ (ev_in rfl (by omega)) (Or.inr ⟨_, rfl, fun i hi => by rw [add_at, Nat.zero_add]; exact m14.cell hi⟩) (fun i _ => rfl) (by omega) ?_⟩
    intro v15 w15 ov15 k15
    have n15 := k15.size
    have mr15 := mr14.same (k15.block _ (by omega))
    have hS15 : (fun Z => Vh 30 Z w1.heap.size 12 12 (nrlF r)) w15 := mr15
    rw [← pk_allS] at ov15
    obtain ⟨a2, c2, rfl, hc2⟩ := rw_slice ov15
    refine hK _ _ (fun _ _ => hS15) ?_
    clear hK K
    refine j_mv rfl rfl (fun _ _ _ h => h) (wanted_rd rfl) (fun _ => run_assign _ rfl (ev_in rfl (by omega)) _) ?_
    refine j_nx ?_
    refine c_ret (ret_of ((defL _ _).trans hd) (res_t rfl (ev_in rfl (by omega))) ⟨a2, c2, rfl, ?_, (((((below_drew kB).trans (k11.mono (by omega))).trans (k12.mono (by omega))).trans (k13.mono (by omega))).trans (k14.mono (by omega))).trans (k15.mono (by omega))⟩)
    rw [gL_map] at ov15
    exact rw_base ov15 (by omega)

end Go.Proofs.YtngmeaaglogieabGreat
