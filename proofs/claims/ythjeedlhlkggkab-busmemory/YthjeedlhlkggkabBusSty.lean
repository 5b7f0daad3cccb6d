/- The contract of stayedBus: nothing of a bus has changed, spare room neither. -/
import Derived.Test.YthjeedlhlkggkabNear12
namespace Go.Proofs.Ythjeedlhlkggkab
open Go.RowKit

theorem run_lenQ {f : Operand → Value} {o : Oper} (x : Operand) (ho : o.op = .call { callee := .builtin .len, args := #[x], argTypes := #[23] }) {ao : Option Addr} {n c : Nat} (hx : f x = .slice ao n c) (w : World) :
    (execOp f o).run Try.prog w = .ok (.value (.int .i64 (n : Nat))) w := by
  unfold execOp
  rw [ho]
  dsimp only
  go_simp
theorem run_topQ {f : Operand → Value} {o : Oper} (x y : Operand) (ho : o.op = .slice 23 x none (some y) none) {a : Addr} {n c m : Nat} (hx : f x = .slice (some a) n c) (hy : f y = .int .i64 (m : Nat)) (h1 : m ≤ c) (w : World) :
    (execOp f o).run Try.prog w = .ok (.value (.slice (some a) m c)) w := by
  have hm : (m : Int) ≤ (c : Int) := by omega
  unfold execOp
  rw [ho]
  dsimp only
  rw [hx]
  go_simp
/-- What is read in a round. -/
def SyS (w : World) (N S : Int) (u v : Value) (p : Pc) (x a : Nat) (s : Value) (y b : Nat) (t : Value) (W : World) : Prop := BuAt W w.heap.size N S u ∧ BuAt W (w.heap.size + 1) N S v ∧ PcAt W x a p s ∧ PcAt W y b p t
theorem SyS.below {w W W' : World} {N S : Int} {u v s t : Value} {p : Pc} {x a y b : Nat} (h : SyS w N S u v p x a s y b t W) (k : Below W.heap.size W W') : SyS w N S u v p x a s y b t W' := ⟨h.1.below k, h.2.1.below k, h.2.2.1.below k, h.2.2.2.below k⟩
theorem SyS.kept {w W W' : World} {N S : Int} {u v s t : Value} {p : Pc} {x a y b z : Nat} (h : SyS w N S u v p x a s y b t W) (k : Kept z W W') (h1 : w.heap.size ≠ z) (h2 : w.heap.size + 1 ≠ z) (h3 : x ≠ z) (h4 : y ≠ z) : SyS w N S u v p x a s y b t W' := ⟨h.1.kept k h1, h.2.1.kept k h2, h.2.2.1.kept k h3, h.2.2.2.kept k h4⟩
theorem sy_two (w : World) (N S : Int) (u v : Value) : ∃ w1, w1 = ((w.alloc (.cells #[.int .i64 N, .int .i64 S, u] 25)).alloc (.cells #[.int .i64 N, .int .i64 S, v] 25)) ∧ BuAt w1 w.heap.size N S u ∧ BuAt w1 (w.heap.size + 1) N S v ∧ Below w.heap.size w w1 ∧ w1.heap.size = w.heap.size + 1 + 1 := by
  obtain ⟨w1, e1, m1, k1, s1⟩ := bu_alloc w N S u
  obtain ⟨w2, e2, m2, k2, s2⟩ := bu_alloc w1 N S v
  subst e1
  rw [s1] at m2
  exact ⟨w2, e2, m1.below k2, m2, k1.trans (k2.mono (by omega)), by omega⟩

set_option maxRecDepth 100000 in
set_option maxHeartbeats 4000000 in
theorem stayedBus_any (N S : Int) (q : List Pc) (B r cq : Nat) (M : List Lp) (ao : Option Addr) (cap : Nat) (L : List Lp) (w : World) (hok : ∀ p, p ∈ q → PcOK p) (tM : These M q) (hro : RoB w B r L.length cq M) (ht : These L q) (hr : BRd w ao cap L) (hl : L.length ≤ 100) :
    Calls Try.prog 15 #[busV N S (.slice (some ⟨r, 0, none⟩) L.length cq), busV N S (.slice ao L.length cap)] w fun e w' => e = .returned (.bool true) ∧ Below w.heap.size w w' := by
  obtain ⟨n, en⟩ : ∃ n, n = L.length := ⟨_, rfl⟩
  rw [← en] at hl hro ⊢
  obtain ⟨w1, e1, m1, m2, k1, s1⟩ := sy_two w N S (.slice (some ⟨r, 0, none⟩) n cq) (.slice ao n cap)
  have hcq : n + 1 ≤ cq := by
    rcases hro.2.1.2 with ⟨e, _⟩ | ⟨g, c, cur, e, _, _, hc, _⟩
    · cases e
    · injection e with e1 e2 e3
      omega
  have E1 := hide e1; have M1 := hide m1; have M2 := hide m2; have K1 := hide k1; have RO := hide (hro.below k1); have R1 := hide (hr.below k1); have TM := hide tM; have HT := hide ht; have EN := hide en; have OK := hide hok
  clear e1 m1 m2 k1 s1 hro hr tM ht en hok
  unfold busV
  go_enter Try.func15, Try.ntmps15
  go_wp2_with fail
  rw [← unhide E1]
  refine wp_leaves (fun a0 a' w' => w' = w1.drew ∧ a' = (((((((((((((((((((((((((((((((((((((a0.put (some 8) (.pointer (some ⟨w.heap.size, 0, none⟩))).put (some 9) (.int .i64 N)).put (some 10) (.pointer (some ⟨w.heap.size + 1, 0, none⟩))).put (some 11) (.int .i64 N)).put (some 12) (.bool false)).put (some 13) (.bool false)).put (some 14) (.pointer (some ⟨w.heap.size, 1, none⟩))).put (some 15) (.int .i64 S)).put (some 16) (.pointer (some ⟨w.heap.size + 1, 1, none⟩))).put (some 17) (.int .i64 S)).put (some 18) (.bool false)).put (some 19) (.bool false)).put (some 20) (.bool false)).put (some 21) (.pointer (some ⟨w.heap.size, 2, none⟩))).put (some 22) (.slice (some ⟨r, 0, none⟩) n cq)).put (some 23) (.int .i64 (n : Nat))).put (some 24) (.pointer (some ⟨w.heap.size + 1, 2, none⟩))).put (some 25) (.slice ao n cap)).put (some 26) (.int .i64 (n : Nat))).put (some 27) (.bool false)).put (some 28) (.bool false)).put (some 29) (.bool false)).put (some 30) (.pointer (some ⟨w.heap.size, 2, none⟩))).put (some 31) (.slice (some ⟨r, 0, none⟩) n cq)).put (some 32) (.pointer (some ⟨w.heap.size + 1, 2, none⟩))).put (some 33) (.slice ao n cap)).put (some 34) (.int .i64 (n : Nat))).put (some 35) (.int .i64 ((n : Int) + 1))).put (some 36) (.slice (some ⟨r, 0, none⟩) (n + 1) cq)).put (some 37) (.pointer (some ⟨w.heap.size + 1, 2, none⟩))).put (some 38) (.slice ao n cap)).put (some 39) (.int .i64 (n : Nat))).put (some 40) (.pointer (some ⟨r, 0 + n * 5, none⟩))).put (some 41) (.pointer (some ⟨r, 0 + n * 5 + 3, none⟩))).put (some 42) (.int .i64 (-4711))).put (some 43) (.bool false)).put (some 44) (.bool false))) ?reg ?rest
  case reg =>
    intro A eA
    have b2 : A.eval (.tmp 2) = .pointer (some ⟨w.heap.size, 0, none⟩) := by rw [eA]; rfl
    have b3 : A.eval (.tmp 3) = .pointer (some ⟨w.heap.size + 1, 0, none⟩) := by rw [eA]; rfl
    have hs : 96 ≤ A.tmps.size := by rw [eA]; exact of_decide_eq_true rfl
    clear eA
    have hS : BuAt w1.drew w.heap.size N S (.slice (some ⟨r, 0, none⟩) n cq) ∧ BuAt w1.drew (w.heap.size + 1) N S (.slice ao n cap) ∧ w1.drew.cell? ⟨r, 0 + n * 5 + 3, none⟩ = some (.int .i64 (-4711)) := ⟨unhide M1, unhide M2, (unhide RO).mark⟩
    refine region_I (S := fun W => BuAt W w.heap.size N S (.slice (some ⟨r, 0, none⟩) n cq) ∧ BuAt W (w.heap.size + 1) N S (.slice ao n cap) ∧ W.cell? ⟨r, 0 + n * 5 + 3, none⟩ = some (.int .i64 (-4711))) (.rd 0 (.rd 1 (.rd 2 (.rd 3 (.rd 4 (.rd 5 (.rd 6 (.rd 7 (.rd 8 (.rd 9 (.rd 10 (.rd 11 (.rd 12 (.rd 13 (.rd 14 (.rd 15 (.rd 16 (.rd 17 (.rd 18 (.rd 19 (.rd 20 (.rd 21 (.rd 22 (.rd 23 (.rd 24 (.rd 25 (.rd 26 (.rd 27 (.rd 28 (.rd 29 (.rd 30 (.rd 31 (.rd 32 (.rd 33 (.rd 34 (.rd 35 (.rd 36 .fin))))))))))))))))))))))))))))))))))))) [] (by kernel_rfl) (by kernel_rfl) ?_
    refine sI_read (v := (.pointer (some ⟨w.heap.size, 0, none⟩))) rfl (fun _ _ _ h => absurd h.1 (fun e => nomatch e)) (wanted_rd rfl) hS (fun wx _ => run_fldU (.tmp 2) 0 rfl b2 (by omega) wx) ?_
    show SeqI _ _ _ _ _ _ (Act.put _ (some 8) _) _
    refine sI_read (v := (.int .i64 N)) rfl (fun _ _ _ h => absurd h.1 (fun e => nomatch e)) (wanted_rd rfl) hS (fun wx hx => run_lodN (.tmp 8) rfl (ev_same _ _ _ (by omega)) hx.1.cell0) ?_
    show SeqI _ _ _ _ _ _ (Act.put _ (some 9) _) _
    refine sI_read (v := (.pointer (some ⟨w.heap.size + 1, 0, none⟩))) rfl (fun _ _ _ h => absurd h.1 (fun e => nomatch e)) (wanted_rd rfl) hS (fun wx _ => run_fldU (.tmp 3) 0 rfl ((ev_other _ _ (by decide)).trans ((ev_other _ _ (by decide)).trans b3)) (by omega) wx) ?_
    show SeqI _ _ _ _ _ _ (Act.put _ (some 10) _) _
    refine sI_read (v := (.int .i64 N)) rfl (fun _ _ _ h => absurd h.1 (fun e => nomatch e)) (wanted_rd rfl) hS (fun wx hx => run_lodN (.tmp 10) rfl (ev_same _ _ _ (by simp only [sz_put]; omega)) hx.2.1.cell0) ?_
    show SeqI _ _ _ _ _ _ (Act.put _ (some 11) _) _
    refine sI_read (v := (.bool false)) rfl (fun _ _ _ h => absurd h.1 (fun e => nomatch e)) (wanted_rd rfl) hS (fun wx _ => run_neI2 (.tmp 9) (.tmp 11) rfl ((ev_other _ _ (by decide)).trans ((ev_other _ _ (by decide)).trans (ev_same _ _ _ (by simp only [sz_put]; omega)))) (ev_same _ _ _ (by simp only [sz_put]; omega)) wx) ?_
    show SeqI _ _ _ _ _ _ (Act.put _ (some 12) _) _
    refine sI_read (v := (.bool false)) rfl (fun _ _ _ h => absurd h.1 (fun e => nomatch e)) (wanted_rd rfl) hS (fun wx _ => run_move (.tmp 12) rfl (ev_same _ _ _ (by simp only [sz_put]; omega)) wx) ?_
    show SeqI _ _ _ _ _ _ (Act.put _ (some 13) _) _
    refine sI_read (v := (.pointer (some ⟨w.heap.size, 1, none⟩))) rfl (fun _ _ _ h => absurd h.1 (fun e => nomatch e)) (wanted_g (j := 5) rfl rfl rfl (ev_same _ _ _ (by simp only [sz_put]; omega))) hS (fun wx _ => run_fldU (.tmp 2) 1 rfl ((ev_other _ _ (by decide)).trans ((ev_other _ _ (by decide)).trans ((ev_other _ _ (by decide)).trans ((ev_other _ _ (by decide)).trans ((ev_other _ _ (by decide)).trans ((ev_other _ _ (by decide)).trans b2)))))) (by omega) wx) ?_
    show SeqI _ _ _ _ _ _ (Act.put _ (some 14) _) _
    refine sI_read (v := (.int .i64 S)) rfl (fun _ _ _ h => absurd h.1 (fun e => nomatch e)) (wanted_g (j := 5) rfl rfl rfl ((ev_other _ _ (by decide)).trans (ev_same _ _ _ (by simp only [sz_put]; omega)))) hS (fun wx hx => run_lodN (.tmp 14) rfl (ev_same _ _ _ (by simp only [sz_put]; omega)) hx.1.cell1) ?_
    show SeqI _ _ _ _ _ _ (Act.put _ (some 15) _) _
    refine sI_read (v := (.pointer (some ⟨w.heap.size + 1, 1, none⟩))) rfl (fun _ _ _ h => absurd h.1 (fun e => nomatch e)) (wanted_g (j := 5) rfl rfl rfl ((ev_other _ _ (by decide)).trans ((ev_other _ _ (by decide)).trans (ev_same _ _ _ (by simp only [sz_put]; omega))))) hS (fun wx _ => run_fldU (.tmp 3) 1 rfl ((ev_other _ _ (by decide)).trans ((ev_other _ _ (by decide)).trans ((ev_other _ _ (by decide)).trans ((ev_other _ _ (by decide)).trans ((ev_other _ _ (by decide)).trans ((ev_other _ _ (by decide)).trans ((ev_other _ _ (by decide)).trans ((ev_other _ _ (by decide)).trans b3)))))))) (by omega) wx) ?_
    show SeqI _ _ _ _ _ _ (Act.put _ (some 16) _) _
    refine sI_read (v := (.int .i64 S)) rfl (fun _ _ _ h => absurd h.1 (fun e => nomatch e)) (wanted_g (j := 5) rfl rfl rfl ((ev_other _ _ (by decide)).trans ((ev_other _ _ (by decide)).trans ((ev_other _ _ (by decide)).trans (ev_same _ _ _ (by simp only [sz_put]; omega)))))) hS (fun wx hx => run_lodN (.tmp 16) rfl (ev_same _ _ _ (by simp only [sz_put]; omega)) hx.2.1.cell1) ?_
    show SeqI _ _ _ _ _ _ (Act.put _ (some 17) _) _
    refine sI_read (v := (.bool false)) rfl (fun _ _ _ h => absurd h.1 (fun e => nomatch e)) (wanted_g (j := 5) rfl rfl rfl ((ev_other _ _ (by decide)).trans ((ev_other _ _ (by decide)).trans ((ev_other _ _ (by decide)).trans ((ev_other _ _ (by decide)).trans (ev_same _ _ _ (by simp only [sz_put]; omega))))))) hS (fun wx _ => run_neI2 (.tmp 15) (.tmp 17) rfl ((ev_other _ _ (by decide)).trans ((ev_other _ _ (by decide)).trans (ev_same _ _ _ (by simp only [sz_put]; omega)))) (ev_same _ _ _ (by simp only [sz_put]; omega)) wx) ?_
    show SeqI _ _ _ _ _ _ (Act.put _ (some 18) _) _
    refine sI_read (v := (.bool false)) rfl (fun _ _ _ h => absurd h.1 (fun e => nomatch e)) (wanted_rd rfl) hS (fun wx _ => run_pickF (.tmp 13) (.const (.bool true)) (.tmp 18) rfl ((ev_other _ _ (by decide)).trans ((ev_other _ _ (by decide)).trans ((ev_other _ _ (by decide)).trans ((ev_other _ _ (by decide)).trans ((ev_other _ _ (by decide)).trans (ev_same _ _ _ (by simp only [sz_put]; omega))))))) (ev_same _ _ _ (by simp only [sz_put]; omega)) wx) ?_
    show SeqI _ _ _ _ _ _ (Act.put _ (some 19) _) _
    refine sI_read (v := (.bool false)) rfl (fun _ _ _ h => absurd h.1 (fun e => nomatch e)) (wanted_rd rfl) hS (fun wx _ => run_move (.tmp 19) rfl (ev_same _ _ _ (by simp only [sz_put]; omega)) wx) ?_
    show SeqI _ _ _ _ _ _ (Act.put _ (some 20) _) _
    refine sI_read (v := (.pointer (some ⟨w.heap.size, 2, none⟩))) rfl (fun _ _ _ h => absurd h.1 (fun e => nomatch e)) (wanted_g (j := 12) rfl rfl rfl (ev_same _ _ _ (by simp only [sz_put]; omega))) hS (fun wx _ => run_fldU (.tmp 2) 2 rfl ((ev_other _ _ (by decide)).trans ((ev_other _ _ (by decide)).trans ((ev_other _ _ (by decide)).trans ((ev_other _ _ (by decide)).trans ((ev_other _ _ (by decide)).trans ((ev_other _ _ (by decide)).trans ((ev_other _ _ (by decide)).trans ((ev_other _ _ (by decide)).trans ((ev_other _ _ (by decide)).trans ((ev_other _ _ (by decide)).trans ((ev_other _ _ (by decide)).trans ((ev_other _ _ (by decide)).trans ((ev_other _ _ (by decide)).trans b2))))))))))))) (by omega) wx) ?_
    show SeqI _ _ _ _ _ _ (Act.put _ (some 21) _) _
    refine sI_read (v := (.slice (some ⟨r, 0, none⟩) n cq)) rfl (fun _ _ _ h => absurd h.1 (fun e => nomatch e)) (wanted_g (j := 12) rfl rfl rfl ((ev_other _ _ (by decide)).trans (ev_same _ _ _ (by simp only [sz_put]; omega)))) hS (fun wx hx => run_lodQ (.tmp 21) rfl (ev_same _ _ _ (by simp only [sz_put]; omega)) hx.1.cell2) ?_
    show SeqI _ _ _ _ _ _ (Act.put _ (some 22) _) _
    refine sI_read (v := (.int .i64 (n : Nat))) rfl (fun _ _ _ h => absurd h.1 (fun e => nomatch e)) (wanted_g (j := 12) rfl rfl rfl ((ev_other _ _ (by decide)).trans ((ev_other _ _ (by decide)).trans (ev_same _ _ _ (by simp only [sz_put]; omega))))) hS (fun wx _ => run_lenQ (.tmp 22) rfl (ev_same _ _ _ (by simp only [sz_put]; omega)) wx) ?_
    show SeqI _ _ _ _ _ _ (Act.put _ (some 23) _) _
    refine sI_read (v := (.pointer (some ⟨w.heap.size + 1, 2, none⟩))) rfl (fun _ _ _ h => absurd h.1 (fun e => nomatch e)) (wanted_g (j := 12) rfl rfl rfl ((ev_other _ _ (by decide)).trans ((ev_other _ _ (by decide)).trans ((ev_other _ _ (by decide)).trans (ev_same _ _ _ (by simp only [sz_put]; omega)))))) hS (fun wx _ => run_fldU (.tmp 3) 2 rfl ((ev_other _ _ (by decide)).trans ((ev_other _ _ (by decide)).trans ((ev_other _ _ (by decide)).trans ((ev_other _ _ (by decide)).trans ((ev_other _ _ (by decide)).trans ((ev_other _ _ (by decide)).trans ((ev_other _ _ (by decide)).trans ((ev_other _ _ (by decide)).trans ((ev_other _ _ (by decide)).trans ((ev_other _ _ (by decide)).trans ((ev_other _ _ (by decide)).trans ((ev_other _ _ (by decide)).trans ((ev_other _ _ (by decide)).trans ((ev_other _ _ (by decide)).trans ((ev_other _ _ (by decide)).trans ((ev_other _ _ (by decide)).trans b3)))))))))))))))) (by omega) wx) ?_
    show SeqI _ _ _ _ _ _ (Act.put _ (some 24) _) _
    refine sI_read (v := (.slice ao n cap)) rfl (fun _ _ _ h => absurd h.1 (fun e => nomatch e)) (wanted_g (j := 12) rfl rfl rfl ((ev_other _ _ (by decide)).trans ((ev_other _ _ (by decide)).trans ((ev_other _ _ (by decide)).trans ((ev_other _ _ (by decide)).trans (ev_same _ _ _ (by simp only [sz_put]; omega))))))) hS (fun wx hx => run_lodQ (.tmp 24) rfl (ev_same _ _ _ (by simp only [sz_put]; omega)) hx.2.1.cell2) ?_
    show SeqI _ _ _ _ _ _ (Act.put _ (some 25) _) _
    refine sI_read (v := (.int .i64 (n : Nat))) rfl (fun _ _ _ h => absurd h.1 (fun e => nomatch e)) (wanted_g (j := 12) rfl rfl rfl ((ev_other _ _ (by decide)).trans ((ev_other _ _ (by decide)).trans ((ev_other _ _ (by decide)).trans ((ev_other _ _ (by decide)).trans ((ev_other _ _ (by decide)).trans (ev_same _ _ _ (by simp only [sz_put]; omega)))))))) hS (fun wx _ => run_lenQ (.tmp 25) rfl (ev_same _ _ _ (by simp only [sz_put]; omega)) wx) ?_
    show SeqI _ _ _ _ _ _ (Act.put _ (some 26) _) _
    refine sI_read (v := (.bool false)) rfl (fun _ _ _ h => absurd h.1 (fun e => nomatch e)) (wanted_g (j := 12) rfl rfl rfl ((ev_other _ _ (by decide)).trans ((ev_other _ _ (by decide)).trans ((ev_other _ _ (by decide)).trans ((ev_other _ _ (by decide)).trans ((ev_other _ _ (by decide)).trans ((ev_other _ _ (by decide)).trans (ev_same _ _ _ (by simp only [sz_put]; omega))))))))) hS (fun wx _ => run_neI2 (.tmp 23) (.tmp 26) rfl ((ev_other _ _ (by decide)).trans ((ev_other _ _ (by decide)).trans ((ev_other _ _ (by decide)).trans (ev_same _ _ _ (by simp only [sz_put]; omega))))) (ev_same _ _ _ (by simp only [sz_put]; omega)) wx) ?_
    show SeqI _ _ _ _ _ _ (Act.put _ (some 27) _) _
    refine sI_read (v := (.bool false)) rfl (fun _ _ _ h => absurd h.1 (fun e => nomatch e)) (wanted_rd rfl) hS (fun wx _ => run_pickF (.tmp 20) (.const (.bool true)) (.tmp 27) rfl ((ev_other _ _ (by decide)).trans ((ev_other _ _ (by decide)).trans ((ev_other _ _ (by decide)).trans ((ev_other _ _ (by decide)).trans ((ev_other _ _ (by decide)).trans ((ev_other _ _ (by decide)).trans ((ev_other _ _ (by decide)).trans (ev_same _ _ _ (by simp only [sz_put]; omega))))))))) (ev_same _ _ _ (by simp only [sz_put]; omega)) wx) ?_
    show SeqI _ _ _ _ _ _ (Act.put _ (some 28) _) _
    refine sI_read (v := (.bool false)) rfl (fun _ _ _ h => absurd h.1 (fun e => nomatch e)) (wanted_rd rfl) hS (fun wx _ => run_move (.tmp 28) rfl (ev_same _ _ _ (by simp only [sz_put]; omega)) wx) ?_
    show SeqI _ _ _ _ _ _ (Act.put _ (some 29) _) _
    refine sI_read (v := (.pointer (some ⟨w.heap.size, 2, none⟩))) rfl (fun _ _ _ h => absurd h.1 (fun e => nomatch e)) (wanted_g (j := 21) rfl rfl rfl (ev_same _ _ _ (by simp only [sz_put]; omega))) hS (fun wx _ => run_fldU (.tmp 2) 2 rfl ((ev_other _ _ (by decide)).trans ((ev_other _ _ (by decide)).trans ((ev_other _ _ (by decide)).trans ((ev_other _ _ (by decide)).trans ((ev_other _ _ (by decide)).trans ((ev_other _ _ (by decide)).trans ((ev_other _ _ (by decide)).trans ((ev_other _ _ (by decide)).trans ((ev_other _ _ (by decide)).trans ((ev_other _ _ (by decide)).trans ((ev_other _ _ (by decide)).trans ((ev_other _ _ (by decide)).trans ((ev_other _ _ (by decide)).trans ((ev_other _ _ (by decide)).trans ((ev_other _ _ (by decide)).trans ((ev_other _ _ (by decide)).trans ((ev_other _ _ (by decide)).trans ((ev_other _ _ (by decide)).trans ((ev_other _ _ (by decide)).trans ((ev_other _ _ (by decide)).trans ((ev_other _ _ (by decide)).trans ((ev_other _ _ (by decide)).trans b2)))))))))))))))))))))) (by omega) wx) ?_
    show SeqI _ _ _ _ _ _ (Act.put _ (some 30) _) _
    refine sI_read (v := (.slice (some ⟨r, 0, none⟩) n cq)) rfl (fun _ _ _ h => absurd h.1 (fun e => nomatch e)) (wanted_g (j := 21) rfl rfl rfl ((ev_other _ _ (by decide)).trans (ev_same _ _ _ (by simp only [sz_put]; omega)))) hS (fun wx hx => run_lodQ (.tmp 30) rfl (ev_same _ _ _ (by simp only [sz_put]; omega)) hx.1.cell2) ?_
    show SeqI _ _ _ _ _ _ (Act.put _ (some 31) _) _
    refine sI_read (v := (.pointer (some ⟨w.heap.size + 1, 2, none⟩))) rfl (fun _ _ _ h => absurd h.1 (fun e => nomatch e)) (wanted_g (j := 21) rfl rfl rfl ((ev_other _ _ (by decide)).trans ((ev_other _ _ (by decide)).trans (ev_same _ _ _ (by simp only [sz_put]; omega))))) hS (fun wx _ => run_fldU (.tmp 3) 2 rfl ((ev_other _ _ (by decide)).trans ((ev_other _ _ (by decide)).trans ((ev_other _ _ (by decide)).trans ((ev_other _ _ (by decide)).trans ((ev_other _ _ (by decide)).trans ((ev_other _ _ (by decide)).trans ((ev_other _ _ (by decide)).trans ((ev_other _ _ (by decide)).trans ((ev_other _ _ (by decide)).trans ((ev_other _ _ (by decide)).trans ((ev_other _ _ (by decide)).trans ((ev_other _ _ (by decide)).trans ((ev_other _ _ (by decide)).trans ((ev_other _ _ (by decide)).trans ((ev_other _ _ (by decide)).trans ((ev_other _ _ (by decide)).trans ((ev_other _ _ (by decide)).trans ((ev_other _ _ (by decide)).trans ((ev_other _ _ (by decide)).trans ((ev_other _ _ (by decide)).trans ((ev_other _ _ (by decide)).trans ((ev_other _ _ (by decide)).trans ((ev_other _ _ (by decide)).trans ((ev_other _ _ (by decide)).trans b3)))))))))))))))))))))))) (by omega) wx) ?_
    show SeqI _ _ _ _ _ _ (Act.put _ (some 32) _) _
    refine sI_read (v := (.slice ao n cap)) rfl (fun _ _ _ h => absurd h.1 (fun e => nomatch e)) (wanted_g (j := 21) rfl rfl rfl ((ev_other _ _ (by decide)).trans ((ev_other _ _ (by decide)).trans ((ev_other _ _ (by decide)).trans (ev_same _ _ _ (by simp only [sz_put]; omega)))))) hS (fun wx hx => run_lodQ (.tmp 32) rfl (ev_same _ _ _ (by simp only [sz_put]; omega)) hx.2.1.cell2) ?_
    show SeqI _ _ _ _ _ _ (Act.put _ (some 33) _) _
    refine sI_read (v := (.int .i64 (n : Nat))) rfl (fun _ _ _ h => absurd h.1 (fun e => nomatch e)) (wanted_g (j := 21) rfl rfl rfl ((ev_other _ _ (by decide)).trans ((ev_other _ _ (by decide)).trans ((ev_other _ _ (by decide)).trans ((ev_other _ _ (by decide)).trans (ev_same _ _ _ (by simp only [sz_put]; omega))))))) hS (fun wx _ => run_lenQ (.tmp 33) rfl (ev_same _ _ _ (by simp only [sz_put]; omega)) wx) ?_
    show SeqI _ _ _ _ _ _ (Act.put _ (some 34) _) _
    refine sI_read (v := (.int .i64 ((n : Int) + 1))) rfl (fun _ _ _ h => absurd h.1 (fun e => nomatch e)) (wanted_g (j := 21) rfl rfl rfl ((ev_other _ _ (by decide)).trans ((ev_other _ _ (by decide)).trans ((ev_other _ _ (by decide)).trans ((ev_other _ _ (by decide)).trans ((ev_other _ _ (by decide)).trans (ev_same _ _ _ (by simp only [sz_put]; omega)))))))) hS (fun wx _ => run_addP (.tmp 34) (.const (.int .i64 1)) rfl (ev_same _ _ _ (by simp only [sz_put]; omega)) rfl (by omega) (by omega) wx) ?_
    show SeqI _ _ _ _ _ _ (Act.put _ (some 35) _) _
    refine sI_read (v := (.slice (some ⟨r, 0, none⟩) (n + 1) cq)) rfl (fun _ _ _ h => absurd h.1 (fun e => nomatch e)) (wanted_g (j := 21) rfl rfl rfl ((ev_other _ _ (by decide)).trans ((ev_other _ _ (by decide)).trans ((ev_other _ _ (by decide)).trans ((ev_other _ _ (by decide)).trans ((ev_other _ _ (by decide)).trans ((ev_other _ _ (by decide)).trans (ev_same _ _ _ (by simp only [sz_put]; omega))))))))) hS (fun wx _ => run_topQ (m := n + 1) (.tmp 31) (.tmp 35) rfl ((ev_other _ _ (by decide)).trans ((ev_other _ _ (by decide)).trans ((ev_other _ _ (by decide)).trans ((ev_other _ _ (by decide)).trans (ev_same _ _ _ (by simp only [sz_put]; omega)))))) ((ev_same _ _ _ (by simp only [sz_put]; omega)).trans (by rw [Int.natCast_add]; rfl)) hcq wx) ?_
    show SeqI _ _ _ _ _ _ (Act.put _ (some 36) _) _
    refine sI_read (v := (.pointer (some ⟨w.heap.size + 1, 2, none⟩))) rfl (fun _ _ _ h => absurd h.1 (fun e => nomatch e)) (wanted_g (j := 21) rfl rfl rfl ((ev_other _ _ (by decide)).trans ((ev_other _ _ (by decide)).trans ((ev_other _ _ (by decide)).trans ((ev_other _ _ (by decide)).trans ((ev_other _ _ (by decide)).trans ((ev_other _ _ (by decide)).trans ((ev_other _ _ (by decide)).trans (ev_same _ _ _ (by simp only [sz_put]; omega)))))))))) hS (fun wx _ => run_fldU (.tmp 3) 2 rfl ((ev_other _ _ (by decide)).trans ((ev_other _ _ (by decide)).trans ((ev_other _ _ (by decide)).trans ((ev_other _ _ (by decide)).trans ((ev_other _ _ (by decide)).trans ((ev_other _ _ (by decide)).trans ((ev_other _ _ (by decide)).trans ((ev_other _ _ (by decide)).trans ((ev_other _ _ (by decide)).trans ((ev_other _ _ (by decide)).trans ((ev_other _ _ (by decide)).trans ((ev_other _ _ (by decide)).trans ((ev_other _ _ (by decide)).trans ((ev_other _ _ (by decide)).trans ((ev_other _ _ (by decide)).trans ((ev_other _ _ (by decide)).trans ((ev_other _ _ (by decide)).trans ((ev_other _ _ (by decide)).trans ((ev_other _ _ (by decide)).trans ((ev_other _ _ (by decide)).trans ((ev_other _ _ (by decide)).trans ((ev_other _ _ (by decide)).trans ((ev_other _ _ (by decide)).trans ((ev_other _ _ (by decide)).trans ((ev_other _ _ (by decide)).trans ((ev_other _ _ (by decide)).trans ((ev_other _ _ (by decide)).trans ((ev_other _ _ (by decide)).trans ((ev_other _ _ (by decide)).trans b3))))))))))))))))))))))))))))) (by omega) wx) ?_
    show SeqI _ _ _ _ _ _ (Act.put _ (some 37) _) _
    refine sI_read (v := (.slice ao n cap)) rfl (fun _ _ _ h => absurd h.1 (fun e => nomatch e)) (wanted_g (j := 21) rfl rfl rfl ((ev_other _ _ (by decide)).trans ((ev_other _ _ (by decide)).trans ((ev_other _ _ (by decide)).trans ((ev_other _ _ (by decide)).trans ((ev_other _ _ (by decide)).trans ((ev_other _ _ (by decide)).trans ((ev_other _ _ (by decide)).trans ((ev_other _ _ (by decide)).trans (ev_same _ _ _ (by simp only [sz_put]; omega))))))))))) hS (fun wx hx => run_lodQ (.tmp 37) rfl (ev_same _ _ _ (by simp only [sz_put]; omega)) hx.2.1.cell2) ?_
    show SeqI _ _ _ _ _ _ (Act.put _ (some 38) _) _
    refine sI_read (v := (.int .i64 (n : Nat))) rfl (fun _ _ _ h => absurd h.1 (fun e => nomatch e)) (wanted_g (j := 21) rfl rfl rfl ((ev_other _ _ (by decide)).trans ((ev_other _ _ (by decide)).trans ((ev_other _ _ (by decide)).trans ((ev_other _ _ (by decide)).trans ((ev_other _ _ (by decide)).trans ((ev_other _ _ (by decide)).trans ((ev_other _ _ (by decide)).trans ((ev_other _ _ (by decide)).trans ((ev_other _ _ (by decide)).trans (ev_same _ _ _ (by simp only [sz_put]; omega)))))))))))) hS (fun wx _ => run_lenQ (.tmp 38) rfl (ev_same _ _ _ (by simp only [sz_put]; omega)) wx) ?_
    show SeqI _ _ _ _ _ _ (Act.put _ (some 39) _) _
    refine sI_read (v := (.pointer (some ⟨r, 0 + n * 5, none⟩))) rfl (fun _ _ _ h => absurd h.1 (fun e => nomatch e)) (wanted_g (j := 21) rfl rfl rfl ((ev_other _ _ (by decide)).trans ((ev_other _ _ (by decide)).trans ((ev_other _ _ (by decide)).trans ((ev_other _ _ (by decide)).trans ((ev_other _ _ (by decide)).trans ((ev_other _ _ (by decide)).trans ((ev_other _ _ (by decide)).trans ((ev_other _ _ (by decide)).trans ((ev_other _ _ (by decide)).trans ((ev_other _ _ (by decide)).trans (ev_same _ _ _ (by simp only [sz_put]; omega))))))))))))) hS (fun wx _ => run_ixP (.tmp 36) (.tmp 39) rfl ((ev_other _ _ (by decide)).trans ((ev_other _ _ (by decide)).trans ((ev_other _ _ (by decide)).trans (ev_same _ _ _ (by simp only [sz_put]; omega))))) (ev_same _ _ _ (by simp only [sz_put]; omega)) (by omega) wx) ?_
    show SeqI _ _ _ _ _ _ (Act.put _ (some 40) _) _
    refine sI_read (v := (.pointer (some ⟨r, 0 + n * 5 + 3, none⟩))) rfl (fun _ _ _ h => absurd h.1 (fun e => nomatch e)) (wanted_g (j := 21) rfl rfl rfl ((ev_other _ _ (by decide)).trans ((ev_other _ _ (by decide)).trans ((ev_other _ _ (by decide)).trans ((ev_other _ _ (by decide)).trans ((ev_other _ _ (by decide)).trans ((ev_other _ _ (by decide)).trans ((ev_other _ _ (by decide)).trans ((ev_other _ _ (by decide)).trans ((ev_other _ _ (by decide)).trans ((ev_other _ _ (by decide)).trans ((ev_other _ _ (by decide)).trans (ev_same _ _ _ (by simp only [sz_put]; omega)))))))))))))) hS (fun wx _ => run_fldP (.tmp 40) 3 rfl (ev_same _ _ _ (by simp only [sz_put]; omega)) (by omega) wx) ?_
    show SeqI _ _ _ _ _ _ (Act.put _ (some 41) _) _
    refine sI_read (v := (.int .i64 (-4711))) rfl (fun _ _ _ h => absurd h.1 (fun e => nomatch e)) (wanted_g (j := 21) rfl rfl rfl ((ev_other _ _ (by decide)).trans ((ev_other _ _ (by decide)).trans ((ev_other _ _ (by decide)).trans ((ev_other _ _ (by decide)).trans ((ev_other _ _ (by decide)).trans ((ev_other _ _ (by decide)).trans ((ev_other _ _ (by decide)).trans ((ev_other _ _ (by decide)).trans ((ev_other _ _ (by decide)).trans ((ev_other _ _ (by decide)).trans ((ev_other _ _ (by decide)).trans ((ev_other _ _ (by decide)).trans (ev_same _ _ _ (by simp only [sz_put]; omega))))))))))))))) hS (fun wx hx => run_lodN (.tmp 41) rfl (ev_same _ _ _ (by simp only [sz_put]; omega)) hx.2.2) ?_
    show SeqI _ _ _ _ _ _ (Act.put _ (some 42) _) _
    refine sI_read (v := (.bool false)) rfl (fun _ _ _ h => absurd h.1 (fun e => nomatch e)) (wanted_g (j := 21) rfl rfl rfl ((ev_other _ _ (by decide)).trans ((ev_other _ _ (by decide)).trans ((ev_other _ _ (by decide)).trans ((ev_other _ _ (by decide)).trans ((ev_other _ _ (by decide)).trans ((ev_other _ _ (by decide)).trans ((ev_other _ _ (by decide)).trans ((ev_other _ _ (by decide)).trans ((ev_other _ _ (by decide)).trans ((ev_other _ _ (by decide)).trans ((ev_other _ _ (by decide)).trans ((ev_other _ _ (by decide)).trans ((ev_other _ _ (by decide)).trans (ev_same _ _ _ (by simp only [sz_put]; omega)))))))))))))))) hS (fun wx _ => run_neI2 (.tmp 42) (.const (.int .i64 (-4711))) rfl (ev_same _ _ _ (by simp only [sz_put]; omega)) rfl wx) ?_
    show SeqI _ _ _ _ _ _ (Act.put _ (some 43) _) _
    refine sI_read (v := (.bool false)) rfl (fun _ _ _ h => absurd h.1 (fun e => nomatch e)) (wanted_rd rfl) hS (fun wx _ => run_pickF (.tmp 29) (.const (.bool true)) (.tmp 43) rfl ((ev_other _ _ (by decide)).trans ((ev_other _ _ (by decide)).trans ((ev_other _ _ (by decide)).trans ((ev_other _ _ (by decide)).trans ((ev_other _ _ (by decide)).trans ((ev_other _ _ (by decide)).trans ((ev_other _ _ (by decide)).trans ((ev_other _ _ (by decide)).trans ((ev_other _ _ (by decide)).trans ((ev_other _ _ (by decide)).trans ((ev_other _ _ (by decide)).trans ((ev_other _ _ (by decide)).trans ((ev_other _ _ (by decide)).trans ((ev_other _ _ (by decide)).trans (ev_same _ _ _ (by simp only [sz_put]; omega)))))))))))))))) (ev_same _ _ _ (by simp only [sz_put]; omega)) wx) ?_
    show SeqI _ _ _ _ _ _ (Act.put _ (some 44) _) _
    exact sI_end ⟨rfl, rfl, rfl⟩
  case rest =>
    rintro a' w2 ⟨rfl, rfl⟩
    obtain ⟨w2, ew2⟩ : ∃ w2, w2 = w1.drew := ⟨_, rfl⟩
    have j2 : Below w1.heap.size w1 w2 := by rw [ew2]; exact below_drew (Below.refl _ _)
    have M1 := hide ((unhide M1).below j2); have M2 := hide ((unhide M2).below j2); have RO := hide ((unhide RO).below j2); have R1 := hide ((unhide R1).below j2); have K2 := hide ((unhide K1).trans (j2.mono (unhide K1).size))
    rw [← ew2, Nat.zero_add]
    clear ew2 j2 K1
    go_frame
    go_wp2_with fail
    go_loopw [5] (fun is wr => ∃ i : Nat, i ≤ n ∧ is = .int .i64 (i : Nat) ∧ Below w2.heap.size w2 wr) (fun is _ => n - (intOf is).toNat)
    case atStart => exact ⟨0, Nat.zero_le _, rfl, Below.refl _ _⟩
    case round =>
      obtain ⟨i, hi, rfl, kr⟩ := hrel
      rename World => wr
      have x2 := ((unhide M2).below kr).cell2
      by_cases hin : i < n
      · have iM : i < M.length := by rw [(unhide RO).1]; exact hin
        have iL : i < L.length := by rw [← unhide EN]; exact hin
        have hM := List.getElem?_eq_getElem iM; have hL := List.getElem?_eq_getElem iL
        obtain ⟨c, ec⟩ : ∃ c, c = M[i] := ⟨_, rfl⟩
        obtain ⟨d, ed⟩ : ∃ d, d = L[i] := ⟨_, rfl⟩
        rw [← ec] at hM
        rw [← ed] at hL
        have ep : c.p = d.p := Option.some.inj (((unhide TM).at hM).symm.trans ((unhide HT).at hL))
        have po := unhide OK d.p ((unhide HT).mem (List.mem_of_getElem? hL))
        have ro := (unhide RO).below kr
        have br := (unhide R1).below kr
        have g1 := ro.at hM
        obtain ⟨y, o, rfl, hq⟩ := br.1 (by omega)
        have g2 := hq i d hL
        obtain ⟨xx, exx, _, vv⟩ := ro.2.2 c (List.mem_of_getElem? hM)
        have sl := (br.2.2 d (List.mem_of_getElem? hL)).1
        obtain ⟨p, ba, bc⟩ := c
        obtain ⟨p2, ba2, bc2⟩ := d
        dsimp only at ep exx vv sl po
        subst ep
        subst exx
        obtain ⟨ba, eba⟩ : ∃ ba, ba = some (⟨xx, 0, none⟩ : Addr) := ⟨_, rfl⟩
        unfold lpV at g1 g2
        dsimp only at g1 g2
        rw [← eba] at g1
        have HS := hide (show SyS w N S (.slice (some ⟨r, 0, none⟩) n cq) (.slice (some ⟨y, o, none⟩) n cap) p r (0 + i * 5) (.slice ba p.ds.length bc) y (o + i * 5) (.slice ba2 p.ds.length bc2) wr from ⟨(unhide M1).below kr, (unhide M2).below kr, g1, g2⟩)
        have KR := hide kr; have VV := hide vv; have SL := hide sl; have EBA := hide eba
        have hds : p.ds.length ≤ 140737488351232 := po.2.2.2.2.2
        clear hM hL ec ed po ro br g1 g2 hq vv sl kr eba iM iL
        go_wp2_with fail
        clear x2
        refine wp_leaves (fun a0 a' w' => ∃ g g2, PvAt w' g p (.slice ba p.ds.length bc) ∧ PvAt w' g2 p (.slice ba2 p.ds.length bc2) ∧ Below wr.heap.size wr w' ∧ a' = ((((((((((((a0.put (some 52) (.pointer (some ⟨w.heap.size, 2, none⟩))).put (some 53) (.slice (some ⟨r, 0, none⟩) n cq)).put (some 54) (.int .i64 (i : Nat))).put (some 55) (.pointer (some ⟨r, 0 + i * 5, none⟩))).put (some 56) (pcV p (.slice ba p.ds.length bc))).put (some 57) (.pointer (some ⟨w.heap.size + 1, 2, none⟩))).put (some 58) (.slice (some ⟨y, o, none⟩) n cap)).put (some 59) (.int .i64 (i : Nat))).put (some 60) (.pointer (some ⟨y, o + i * 5, none⟩))).put (some 61) (pcV p (.slice ba2 p.ds.length bc2))).put (some 6) (.pointer (some ⟨g, 0, none⟩))).put (some 7) (.pointer (some ⟨g2, 0, none⟩)))) ?reg ?rest
        case reg =>
          intro A eA
          have b2 : A.eval (.tmp 2) = .pointer (some ⟨w.heap.size, 0, none⟩) := by rw [eA]; rfl
          have b3 : A.eval (.tmp 3) = .pointer (some ⟨w.heap.size + 1, 0, none⟩) := by rw [eA]; rfl
          have b5 : A.eval (.tmp 5) = .int .i64 (i : Nat) := by rw [eA]; rfl
          have hs : 96 ≤ A.tmps.size := by rw [eA]; exact of_decide_eq_true rfl
          clear eA
          have hS : SyS w N S (.slice (some ⟨r, 0, none⟩) n cq) (.slice (some ⟨y, o, none⟩) n cap) p r (0 + i * 5) (.slice ba p.ds.length bc) y (o + i * 5) (.slice ba2 p.ds.length bc2) wr.drew := unhide HS
          have l1 : r < wr.heap.size := (unhide HS).2.2.1.lt
          have l2 : y < wr.heap.size := (unhide HS).2.2.2.lt
          have l3 : w.heap.size + 1 < wr.heap.size := (unhide HS).2.1.lt
          refine region_I (S := SyS w N S (.slice (some ⟨r, 0, none⟩) n cq) (.slice (some ⟨y, o, none⟩) n cap) p r (0 + i * 5) (.slice ba p.ds.length bc) y (o + i * 5) (.slice ba2 p.ds.length bc2)) (.rd 0 (.rd 1 (.rd 2 (.rd 3 (.rd 4 (.rd 5 (.rd 6 (.rd 7 (.rd 8 (.rd 9 (.two 10 11 (.go 11 (.go 12 (.go 13 .fin))) (.go 10 (.go 12 (.go 13 .fin)))))))))))))) [13] (by kernel_rfl) (by kernel_rfl) ?_
          refine sI_read (v := (.pointer (some ⟨w.heap.size, 2, none⟩))) rfl (fun _ _ _ h => absurd h.1 (fun e => nomatch e)) (wanted_rd rfl) hS (fun wx _ => run_fldU (.tmp 2) 2 rfl b2 (by omega) wx) ?_
          show SeqI _ _ _ _ _ _ (Act.put _ (some 52) _) _
          refine sI_read (v := (.slice (some ⟨r, 0, none⟩) n cq)) rfl (fun _ _ _ h => absurd h.1 (fun e => nomatch e)) (wanted_rd rfl) hS (fun wx hx => run_lodQ (.tmp 52) rfl (ev_same _ _ _ (by omega)) hx.1.cell2) ?_
          show SeqI _ _ _ _ _ _ (Act.put _ (some 53) _) _
          refine sI_read (v := (.int .i64 (i : Nat))) rfl (fun _ _ _ h => absurd h.1 (fun e => nomatch e)) (wanted_rd rfl) hS (fun wx _ => run_move (.tmp 5) rfl ((ev_other _ _ (by decide)).trans ((ev_other _ _ (by decide)).trans b5)) wx) ?_
          show SeqI _ _ _ _ _ _ (Act.put _ (some 54) _) _
          refine sI_read (v := (.pointer (some ⟨r, 0 + i * 5, none⟩))) rfl (fun _ _ _ h => absurd h.1 (fun e => nomatch e)) (wanted_rd rfl) hS (fun wx _ => run_ixP (.tmp 53) (.tmp 54) rfl ((ev_other _ _ (by decide)).trans (ev_same _ _ _ (by simp only [sz_put]; omega))) (ev_same _ _ _ (by simp only [sz_put]; omega)) hin wx) ?_
          show SeqI _ _ _ _ _ _ (Act.put _ (some 55) _) _
          refine sI_read (v := (pcV p (.slice ba p.ds.length bc))) rfl (fun _ _ _ h => absurd h.1 (fun e => nomatch e)) (wanted_rd rfl) hS (fun wx hx => run_lodP (.tmp 55) rfl (ev_same _ _ _ (by simp only [sz_put]; omega)) hx.2.2.1) ?_
          show SeqI _ _ _ _ _ _ (Act.put _ (some 56) _) _
          refine sI_read (v := (.pointer (some ⟨w.heap.size + 1, 2, none⟩))) rfl (fun _ _ _ h => absurd h.1 (fun e => nomatch e)) (wanted_rd rfl) hS (fun wx _ => run_fldU (.tmp 3) 2 rfl ((ev_other _ _ (by decide)).trans ((ev_other _ _ (by decide)).trans ((ev_other _ _ (by decide)).trans ((ev_other _ _ (by decide)).trans ((ev_other _ _ (by decide)).trans b3))))) (by omega) wx) ?_
          show SeqI _ _ _ _ _ _ (Act.put _ (some 57) _) _
          refine sI_read (v := (.slice (some ⟨y, o, none⟩) n cap)) rfl (fun _ _ _ h => absurd h.1 (fun e => nomatch e)) (wanted_rd rfl) hS (fun wx hx => run_lodQ (.tmp 57) rfl (ev_same _ _ _ (by simp only [sz_put]; omega)) hx.2.1.cell2) ?_
          show SeqI _ _ _ _ _ _ (Act.put _ (some 58) _) _
          refine sI_read (v := (.int .i64 (i : Nat))) rfl (fun _ _ _ h => absurd h.1 (fun e => nomatch e)) (wanted_rd rfl) hS (fun wx _ => run_move (.tmp 5) rfl ((ev_other _ _ (by decide)).trans ((ev_other _ _ (by decide)).trans ((ev_other _ _ (by decide)).trans ((ev_other _ _ (by decide)).trans ((ev_other _ _ (by decide)).trans ((ev_other _ _ (by decide)).trans ((ev_other _ _ (by decide)).trans b5))))))) wx) ?_
          show SeqI _ _ _ _ _ _ (Act.put _ (some 59) _) _
          refine sI_read (v := (.pointer (some ⟨y, o + i * 5, none⟩))) rfl (fun _ _ _ h => absurd h.1 (fun e => nomatch e)) (wanted_rd rfl) hS (fun wx _ => run_ixP (.tmp 58) (.tmp 59) rfl ((ev_other _ _ (by decide)).trans (ev_same _ _ _ (by simp only [sz_put]; omega))) (ev_same _ _ _ (by simp only [sz_put]; omega)) hin wx) ?_
          show SeqI _ _ _ _ _ _ (Act.put _ (some 60) _) _
          refine sI_read (v := (pcV p (.slice ba2 p.ds.length bc2))) rfl (fun _ _ _ h => absurd h.1 (fun e => nomatch e)) (wanted_rd rfl) hS (fun wx hx => run_lodP (.tmp 60) rfl (ev_same _ _ _ (by simp only [sz_put]; omega)) hx.2.2.2) ?_
          show SeqI _ _ _ _ _ _ (Act.put _ (some 61) _) _
          refine sI_two rfl rfl (wanted_rd rfl) (wanted_rd rfl) ?_ ?_
          · intro K hK
            refine wp_allocP _ rfl ?_
            intro w3 m3 k3 z3
            refine hK _ _ (fun _ => (SyS.below hS k3)) ?_
            clear hK K
            show SeqI _ _ _ _ _ _ (Act.put _ (some 6) _) _
            refine sI_do rfl (wanted_rd rfl) (fun K hK => ?_)
            refine wp_allocP _ rfl ?_
            intro w4 m4 k4 z4
            refine hK _ _ (fun _ => (SyS.below (SyS.below hS k3) k4)) ?_
            clear hK K
            show SeqI _ _ _ _ _ _ (Act.put _ (some 7) _) _
            have zd : wr.drew.heap.size = wr.heap.size := rfl
            refine sI_do rfl (wanted_rd rfl) (fun K hK => ?_)
            refine wp_storeP _ (.tmp 6) (.tmp 56) rfl ((ev_other _ _ (by decide)).trans (ev_same _ _ _ (by simp only [sz_put]; omega))) ((ev_other _ _ (by decide)).trans ((ev_other _ _ (by decide)).trans ((ev_other _ _ (by decide)).trans ((ev_other _ _ (by decide)).trans ((ev_other _ _ (by decide)).trans ((ev_other _ _ (by decide)).trans ((ev_other _ _ (by decide)).trans (ev_same _ _ _ (by simp only [sz_put]; omega))))))))) (m3.below k4) rfl ?_
            intro w5 m5 k5 z5
            refine hK _ _ (fun _ => (SyS.kept (SyS.below (SyS.below hS k3) k4) k5 (by omega) (by omega) (by omega) (by omega))) ?_
            clear hK K
            refine sI_do rfl (wanted_rd rfl) (fun K hK => ?_)
            refine wp_storeP _ (.tmp 7) (.tmp 61) rfl (ev_same _ _ _ (by simp only [sz_put]; omega)) ((ev_other _ _ (by decide)).trans ((ev_other _ _ (by decide)).trans (ev_same _ _ _ (by simp only [sz_put]; omega)))) (m4.kept k5 (by omega)) rfl ?_
            intro w6 m6 k6 z6
            refine hK _ _ (fun h => absurd h (by decide)) ?_
            clear hK K
            have K34 : Below wr.heap.size wr w4 := (below_drew (Below.refl _ _)).trans (show Below wr.heap.size wr.drew w4 from k3.trans (k4.mono k3.size))
            exact sI_end ⟨rfl, _, _, m5.kept k6 (by omega), m6, below_of_kept (below_of_kept K34 k5 (by omega) K34.size) k6 (by omega) (below_of_kept K34 k5 (by omega) K34.size).size, rfl⟩
          · intro K hK
            refine wp_allocP _ rfl ?_
            intro w3 m3 k3 z3
            refine hK _ _ (fun _ => (SyS.below hS k3)) ?_
            clear hK K
            show SeqI _ _ _ _ _ _ (Act.put _ (some 7) _) _
            refine sI_do rfl (wanted_rd rfl) (fun K hK => ?_)
            refine wp_allocP _ rfl ?_
            intro w4 m4 k4 z4
            refine hK _ _ (fun _ => (SyS.below (SyS.below hS k3) k4)) ?_
            clear hK K
            show SeqI _ _ _ _ _ _ (Act.put _ (some 6) _) _
            rw [put_swap _ 7 6 _ _ (by decide)]
            have zd : wr.drew.heap.size = wr.heap.size := rfl
            refine sI_do rfl (wanted_rd rfl) (fun K hK => ?_)
            refine wp_storeP _ (.tmp 6) (.tmp 56) rfl ((ev_other _ _ (by decide)).trans (ev_same _ _ _ (by simp only [sz_put]; omega))) ((ev_other _ _ (by decide)).trans ((ev_other _ _ (by decide)).trans ((ev_other _ _ (by decide)).trans ((ev_other _ _ (by decide)).trans ((ev_other _ _ (by decide)).trans ((ev_other _ _ (by decide)).trans ((ev_other _ _ (by decide)).trans (ev_same _ _ _ (by simp only [sz_put]; omega))))))))) m4 rfl ?_
            intro w5 m5 k5 z5
            refine hK _ _ (fun _ => (SyS.kept (SyS.below (SyS.below hS k3) k4) k5 (by omega) (by omega) (by omega) (by omega))) ?_
            clear hK K
            refine sI_do rfl (wanted_rd rfl) (fun K hK => ?_)
            refine wp_storeP _ (.tmp 7) (.tmp 61) rfl (ev_same _ _ _ (by simp only [sz_put]; omega)) ((ev_other _ _ (by decide)).trans ((ev_other _ _ (by decide)).trans (ev_same _ _ _ (by simp only [sz_put]; omega)))) ((m3.below k4).kept k5 (by omega)) rfl ?_
            intro w6 m6 k6 z6
            refine hK _ _ (fun h => absurd h (by decide)) ?_
            clear hK K
            have K34 : Below wr.heap.size wr w4 := (below_drew (Below.refl _ _)).trans (show Below wr.heap.size wr.drew w4 from k3.trans (k4.mono k3.size))
            exact sI_end ⟨rfl, _, _, m5.kept k6 (by omega), m6, below_of_kept (below_of_kept K34 k5 (by omega) K34.size) k6 (by omega) (below_of_kept K34 k5 (by omega) K34.size).size, rfl⟩
        case rest =>
          rintro a' w3 ⟨g, g2, m1, m2, k3, rfl⟩
          obtain ⟨p0, p1, p2, p3, p4⟩ := m1.cells'
          obtain ⟨t0, t1, t2, t3, t4⟩ := m2.cells'
          have CS := stayedB_any xx bc ba2 p.ds.length bc2 (gF p.ds) w3 hds ((unhide VV).below k3) ((unhide SL).below k3).rd
          rw [← unhide EBA] at CS
          have K3 := hide ((unhide KR).trans (k3.mono (unhide KR).size))
          obtain ⟨nn, enn⟩ : ∃ nn, nn = p.ds.length := ⟨_, rfl⟩
          rw [← enn] at CS p4 t4 ⊢
          obtain ⟨fr, to, du, se, ds⟩ := p
          dsimp only at p0 p1 p2 p3 t0 t1 t2 t3
          clear m1 m2 k3 enn
          go_frame
          go_wp2_with fail
          refine CS.mono ?_
          rintro e w4 ⟨rfl, k4⟩
          have K4 := hide ((unhide K3).trans (k4.mono (unhide K3).size))
          clear CS k4 p0 p1 p2 p3 p4 t0 t1 t2 t3 t4
          go_wp2_with fail
          go_roundw
          case rel => exact ⟨i + 1, by omega, by go_num, unhide K4⟩
          case measure => simp [intOf] <;> omega
      · have e9 : i = n := by omega
        subst e9
        have KR := hide ((unhide K2).trans (kr.mono (unhide K2).size))
        clear kr
        go_wp2_with fail
        go_ret
        exact ⟨rfl, unhide KR⟩

end Go.Proofs.Ythjeedlhlkggkab
