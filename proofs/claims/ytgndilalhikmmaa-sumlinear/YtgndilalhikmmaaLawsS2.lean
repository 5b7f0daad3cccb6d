/- The walk of SumLinear. -/
import Derived.Test.YtgndilalhikmmaaSumBytes
import Derived.Test.YtgndilalhikmmaaSumBits
import Derived.Test.YtgndilalhikmmaaOpenByte
import Derived.Test.YtgndilalhikmmaaFrameOps
namespace Go.Proofs.Ytgndilalhikmmaa
open Go.RowKit

/-- Bytes made, all nought. -/
theorem wp_makeB (w : World) {o : Oper} {a : Act} {K : Act → World → Prop} {Q : Exit → Act → World → Prop} (l c : Operand) (ho : o.op = .makeSlice 22 l c) (n : Nat) (hl : a.eval l = .int .i64 (n : Int)) (hc : a.eval c = .int .i64 (n : Int)) (hn : n ≤ 140737488355328)
    (h : ∀ w', w' = w.alloc (.cells (madeCells #[.int .u8 0] n) 5) → Vh 5 w' w.heap.size n n (bF (fun _ => 0)) → Below w.heap.size w w' → K (a.put o.dst (.slice (some ⟨w.heap.size, 0, none⟩) n n)) w') : WpI Try.prog o a w K Q := by
  refine ⟨?_⟩
  have hrun := run_make_row' (P := Try.prog) 22 5 (.int .u8 0) 1 Try.underlying22 infoByte rfl .i64 .i64 n (by omega) (by omega) w
  have hh := h _ rfl (Vh.made w 5 (.int .u8 0) n (by unfold maxLen; omega)) (al_below _ _)
  unfold Oper.wp execOp
  simp only [ho, hl, hc, hrun, Sem.run_bind, Sem.run_pure, Result.andThen_ok]
  exact hh

theorem more_x (s : Int) {g : Nat → Nat} (hg : ∀ i, g i < 256) (n : Nat) : moreN s g n = 4294967295 ^^^ cF (begS s) g n := by unfold moreN; rw [not32 _ (cF_lt (begS_lt s) hg n)]
theorem x_twice (a b c : Nat) : (a ^^^ b) ^^^ (a ^^^ c) = b ^^^ c := by rw [Nat.xor_comm a b, Nat.xor_assoc, ← Nat.xor_assoc a a c, Nat.xor_self, Nat.zero_xor]
theorem more_lin {g f : Nat → Nat} (hg : ∀ i, g i < 256) (hf : ∀ i, f i < 256) (n : Nat) : moreN 0 g n ^^^ moreN 0 f n = moreN 0 (fun i => g i ^^^ f i) n ^^^ moreN 0 (fun _ => 0) n := by
  rw [more_x 0 hg, more_x 0 hf, more_x 0 (fun i => Nat.xor_lt_two_pow (n := 8) (hg i) (hf i)), more_x 0 (fun _ => by omega), x_twice, x_twice, ← cF_lin, ← cF_lin]
  simp
theorem run_xorI {f : Operand → Value} {o : Oper} (x y : Operand) (ho : o.op = .binOp .xor 3 x y 3) {u v : Nat} (hx : f x = .int .i64 (u : Nat)) (hy : f y = .int .i64 (v : Nat)) (hu : u < 4294967296) (hv : v < 4294967296) (w : World) :
    (execOp f o).run Try.prog w = .ok (.value (.int .i64 ((u ^^^ v : Nat) : Int))) w := by
  have e := i64_xor_nat u v (by omega) (by omega)
  unfold execOp
  rw [ho]
  dsimp only
  rw [hx, hy]
  go_simp
theorem run_eqlI {f : Operand → Value} {o : Oper} (x y : Operand) (ho : o.op = .binOp .eql 3 x y 3) {u : Nat} (hx : f x = .int .i64 (u : Nat)) (hy : f y = .int .i64 (u : Nat)) (w : World) :
    (execOp f o).run Try.prog w = .ok (.value (.bool true)) w := by
  unfold execOp
  rw [ho]
  dsimp only
  rw [hx, hy]
  go_simp
theorem run_pickT {f : Operand → Value} {o : Oper} (c x y : Operand) (ho : o.op = .pick c x y) {v : Value} (hc : f c = .bool true) (hx : f x = v) (w : World) :
    (execOp f o).run Try.prog w = .ok (.value v) w := by
  unfold execOp
  rw [ho]
  dsimp only
  rw [hc, hx]
  go_simp
/-- What the round reads. -/
def Cl8 (b o b2 o2 : Nat) (x y : Nat) (u : World) : Prop := u.cell? ⟨b, o, none⟩ = some (bV x) ∧ u.cell? ⟨b2, o2, none⟩ = some (bV y)

theorem Cl8.set {b o b2 o2 x y : Nat} {u : World} (h : Cl8 b o b2 o2 x y u) (c k : Nat) (v : Value) (h1 : b ≠ c) (h2 : b2 ≠ c) : Cl8 b o b2 o2 x y (u.setCell ⟨c, k, none⟩ v) :=
  ⟨at_kept h.1 (kept_set u c k v) h1, at_kept h.2 (kept_set u c k v) h2⟩

set_option maxHeartbeats 4000000 in
theorem sumLinear_walk {w : World} (ao : Option Addr) (len cap : Nat) (g : Nat → Nat) (bo : Option Addr) (len2 cap2 : Nat) (f : Nat → Nat) (ha : ArgB w ao len cap g) (hb : ArgB w bo len2 cap2 f) :
    Calls Try.prog 8 #[.slice ao len cap, .slice bo len2 cap2] w fun e w' => e = .returned (.bool true) ∧ Below w.heap.size w w' := by
  obtain ⟨hr, hl, hg, hc⟩ := ha
  obtain ⟨hr2, hl2, hg2, hc2⟩ := hb
  have HR := hide hr; have HG := hide hg; have HR2 := hide hr2; have HG2 := hide hg2
  clear hr hg hr2 hg2 hc hc2
  by_cases hlt : len ≤ len2
  · have hlt2 : (len : Int) ≤ (len2 : Int) := by omega
    go_enter Try.func8, Try.ntmps8
    go_wp2_with fail
    refine wp_leaves (fun a0 a' w' => ∃ bx by_ bz, bx ≠ by_ ∧ bx ≠ bz ∧ by_ ≠ bz ∧ w.heap.size ≤ bx ∧ w.heap.size ≤ by_ ∧ w.heap.size ≤ bz ∧ Vh 5 w' bx len len (bF (fun _ => 0)) ∧ Vh 5 w' by_ len len (bF (fun _ => 0)) ∧ Vh 5 w' bz len len (bF (fun _ => 0)) ∧ Below w.heap.size w w' ∧
        a' = (((((((((a0.put (some 6) (.slice (some ⟨bx, 0, none⟩) len len)).put (some 7) (.slice (some ⟨by_, 0, none⟩) len len)).put (some 8) (.slice (some ⟨bz, 0, none⟩) len len)).put (some 15) (.int .i64 (len : Nat))).put (some 16) (.slice (some ⟨bx, 0, none⟩) len len)).put (some 17) (.int .i64 (len : Nat))).put (some 18) (.slice (some ⟨by_, 0, none⟩) len len)).put (some 19) (.int .i64 (len : Nat))).put (some 20) (.slice (some ⟨bz, 0, none⟩) len len))) ?reg ?rest
    case reg =>
      intro A eA
      have h5 : A.eval (.tmp 5) = .int .i64 (len : Nat) := by rw [eA]; rfl
      have hs : 21 ≤ A.tmps.size := by rw [eA]; exact of_decide_eq_true rfl
      clear eA
      refine region_I (S := fun _ => True) (.rd 0 (.rd 2 (.rd 4 (.three 1 3 5 (.rd 6 (.two 3 5 (.rd 7 (.go 5 (.rd 8 .fin))) (.go 3 (.rd 7 (.rd 8 .fin))))) (.two 1 5 (.rd 6 (.rd 7 (.go 5 (.rd 8 .fin)))) (.go 1 (.rd 6 (.rd 7 (.rd 8 .fin))))) (.two 1 3 (.rd 6 (.go 3 (.rd 7 (.rd 8 .fin)))) (.go 1 (.rd 6 (.rd 7 (.rd 8 .fin))))))))) [] (by kernel_rfl) (by kernel_rfl) ?_
      refine sI_read (v := (.int .i64 (len : Nat))) rfl (fun _ _ _ h => absurd h.1 (fun e => nomatch e)) (wanted_rd rfl) trivial (fun wx _ => run_move (.tmp 5) rfl h5 wx) ?_
      show SeqI _ _ _ _ _ _ (Act.put _ (some 15) _) _
      refine sI_read (v := (.int .i64 (len : Nat))) rfl (fun _ _ _ h => absurd h.1 (fun e => nomatch e)) (wanted_rd rfl) trivial (fun wx _ => run_move (.tmp 5) rfl ((ev_other _ _ (by decide)).trans h5) wx) ?_
      show SeqI _ _ _ _ _ _ (Act.put _ (some 17) _) _
      refine sI_read (v := (.int .i64 (len : Nat))) rfl (fun _ _ _ h => absurd h.1 (fun e => nomatch e)) (wanted_rd rfl) trivial (fun wx _ => run_move (.tmp 5) rfl ((ev_other _ _ (by decide)).trans ((ev_other _ _ (by decide)).trans h5)) wx) ?_
      show SeqI _ _ _ _ _ _ (Act.put _ (some 19) _) _
      refine sI_three rfl rfl rfl (wanted_rd rfl) (wanted_rd rfl) (wanted_rd rfl) ?_ ?_ ?_
      · intro K hK
        refine wp_makeB _ (.tmp 15) (.tmp 15) rfl len ((ev_other _ _ (by decide)).trans ((ev_other _ _ (by decide)).trans (ev_same _ _ _ (by omega)))) ((ev_other _ _ (by decide)).trans ((ev_other _ _ (by decide)).trans (ev_same _ _ _ (by omega)))) (by omega) ?_
        intro w1 e1 h1 k1
        refine hK _ _ (fun _ => trivial) ?_
        clear hK K
        show SeqI _ _ _ _ _ _ (Act.put _ (some 16) _) _
        refine sI_read (v := (.slice (some ⟨w.drew.heap.size, 0, none⟩) len len)) rfl (fun _ _ _ h => absurd h.1 (fun e => nomatch e)) (wanted_rd rfl) trivial (fun wx _ => run_assign (.tmp 16) rfl (ev_same _ _ _ (by simp only [sz_put]; omega)) wx) ?_
        show SeqI _ _ _ _ _ _ (Act.put _ (some 6) _) _
        refine sI_two rfl rfl (wanted_rd rfl) (wanted_rd rfl) ?_ ?_
        · intro K hK
          refine wp_makeB _ (.tmp 17) (.tmp 17) rfl len ((ev_other _ _ (by decide)).trans ((ev_other _ _ (by decide)).trans ((ev_other _ _ (by decide)).trans (ev_same _ _ _ (by simp only [sz_put]; omega))))) ((ev_other _ _ (by decide)).trans ((ev_other _ _ (by decide)).trans ((ev_other _ _ (by decide)).trans (ev_same _ _ _ (by simp only [sz_put]; omega))))) (by omega) ?_
          intro w2 e2 h2 k2
          refine hK _ _ (fun _ => trivial) ?_
          clear hK K
          show SeqI _ _ _ _ _ _ (Act.put _ (some 18) _) _
          refine sI_read (v := (.slice (some ⟨w1.heap.size, 0, none⟩) len len)) rfl (fun _ _ _ h => absurd h.1 (fun e => nomatch e)) (wanted_rd rfl) trivial (fun wx _ => run_assign (.tmp 18) rfl (ev_same _ _ _ (by simp only [sz_put]; omega)) wx) ?_
          show SeqI _ _ _ _ _ _ (Act.put _ (some 7) _) _
          refine sI_do rfl (wanted_rd rfl) (fun K hK => ?_)
          refine wp_makeB _ (.tmp 19) (.tmp 19) rfl len ((ev_other _ _ (by decide)).trans ((ev_other _ _ (by decide)).trans ((ev_other _ _ (by decide)).trans ((ev_other _ _ (by decide)).trans (ev_same _ _ _ (by simp only [sz_put]; omega)))))) ((ev_other _ _ (by decide)).trans ((ev_other _ _ (by decide)).trans ((ev_other _ _ (by decide)).trans ((ev_other _ _ (by decide)).trans (ev_same _ _ _ (by simp only [sz_put]; omega)))))) (by omega) ?_
          intro w3 e3 h3 k3
          refine hK _ _ (fun _ => trivial) ?_
          clear hK K
          show SeqI _ _ _ _ _ _ (Act.put _ (some 20) _) _
          refine sI_read (v := (.slice (some ⟨w2.heap.size, 0, none⟩) len len)) rfl (fun _ _ _ h => absurd h.1 (fun e => nomatch e)) (wanted_rd rfl) trivial (fun wx _ => run_assign (.tmp 20) rfl (ev_same _ _ _ (by simp only [sz_put]; omega)) wx) ?_
          show SeqI _ _ _ _ _ _ (Act.put _ (some 8) _) _
          refine sI_end ?_
          have z1 : w1.heap.size = w.heap.size + 1 := by rw [e1, al_size]; rfl
          have z2 : w2.heap.size = w.heap.size + 2 := by rw [e2, al_size, z1]
          have z0 : w.drew.heap.size = w.heap.size := rfl
          have b1 : Below w.heap.size w w1 := (below_drew (Below.refl _ _)).trans k1
          have b2 : Below w.heap.size w w2 := b1.trans (k2.mono (by omega))
          have b3 : Below w.heap.size w w3 := b2.trans (k3.mono (by omega))
          exact ⟨rfl, w.drew.heap.size, w1.heap.size, w2.heap.size, by omega, by omega, by omega, by omega, by omega, by omega, ((h1.below k2).below k3), (h2.below k3), h3, b3, by rw [put_swap _ 19 16 _ _ (by decide), put_swap _ 17 16 _ _ (by decide), put_swap _ 19 6 _ _ (by decide), put_swap _ 17 6 _ _ (by decide), put_swap _ 16 6 _ _ (by decide), put_swap _ 15 6 _ _ (by decide), put_swap _ 19 18 _ _ (by decide), put_swap _ 19 7 _ _ (by decide), put_swap _ 18 7 _ _ (by decide), put_swap _ 17 7 _ _ (by decide), put_swap _ 16 7 _ _ (by decide), put_swap _ 15 7 _ _ (by decide), put_swap _ 20 8 _ _ (by decide), put_swap _ 19 8 _ _ (by decide), put_swap _ 18 8 _ _ (by decide), put_swap _ 17 8 _ _ (by decide), put_swap _ 16 8 _ _ (by decide), put_swap _ 15 8 _ _ (by decide)]⟩
        · intro K hK
          refine wp_makeB _ (.tmp 19) (.tmp 19) rfl len ((ev_other _ _ (by decide)).trans ((ev_other _ _ (by decide)).trans (ev_same _ _ _ (by simp only [sz_put]; omega)))) ((ev_other _ _ (by decide)).trans ((ev_other _ _ (by decide)).trans (ev_same _ _ _ (by simp only [sz_put]; omega)))) (by omega) ?_
          intro w2 e2 h2 k2
          refine hK _ _ (fun _ => trivial) ?_
          clear hK K
          show SeqI _ _ _ _ _ _ (Act.put _ (some 20) _) _
          refine sI_do rfl (wanted_rd rfl) (fun K hK => ?_)
          refine wp_makeB _ (.tmp 17) (.tmp 17) rfl len ((ev_other _ _ (by decide)).trans ((ev_other _ _ (by decide)).trans ((ev_other _ _ (by decide)).trans ((ev_other _ _ (by decide)).trans (ev_same _ _ _ (by simp only [sz_put]; omega)))))) ((ev_other _ _ (by decide)).trans ((ev_other _ _ (by decide)).trans ((ev_other _ _ (by decide)).trans ((ev_other _ _ (by decide)).trans (ev_same _ _ _ (by simp only [sz_put]; omega)))))) (by omega) ?_
          intro w3 e3 h3 k3
          refine hK _ _ (fun _ => trivial) ?_
          clear hK K
          show SeqI _ _ _ _ _ _ (Act.put _ (some 18) _) _
          refine sI_read (v := (.slice (some ⟨w2.heap.size, 0, none⟩) len len)) rfl (fun _ _ _ h => absurd h.1 (fun e => nomatch e)) (wanted_rd rfl) trivial (fun wx _ => run_assign (.tmp 18) rfl (ev_same _ _ _ (by simp only [sz_put]; omega)) wx) ?_
          show SeqI _ _ _ _ _ _ (Act.put _ (some 7) _) _
          refine sI_read (v := (.slice (some ⟨w1.heap.size, 0, none⟩) len len)) rfl (fun _ _ _ h => absurd h.1 (fun e => nomatch e)) (wanted_rd rfl) trivial (fun wx _ => run_assign (.tmp 20) rfl ((ev_other _ _ (by decide)).trans ((ev_other _ _ (by decide)).trans (ev_same _ _ _ (by simp only [sz_put]; omega)))) wx) ?_
          show SeqI _ _ _ _ _ _ (Act.put _ (some 8) _) _
          refine sI_end ?_
          have z1 : w1.heap.size = w.heap.size + 1 := by rw [e1, al_size]; rfl
          have z2 : w2.heap.size = w.heap.size + 2 := by rw [e2, al_size, z1]
          have z0 : w.drew.heap.size = w.heap.size := rfl
          have b1 : Below w.heap.size w w1 := (below_drew (Below.refl _ _)).trans k1
          have b2 : Below w.heap.size w w2 := b1.trans (k2.mono (by omega))
          have b3 : Below w.heap.size w w3 := b2.trans (k3.mono (by omega))
          exact ⟨rfl, w.drew.heap.size, w2.heap.size, w1.heap.size, by omega, by omega, by omega, by omega, by omega, by omega, ((h1.below k2).below k3), h3, (h2.below k3), b3, by rw [put_swap _ 19 16 _ _ (by decide), put_swap _ 17 16 _ _ (by decide), put_swap _ 19 6 _ _ (by decide), put_swap _ 17 6 _ _ (by decide), put_swap _ 16 6 _ _ (by decide), put_swap _ 15 6 _ _ (by decide), put_swap _ 20 18 _ _ (by decide), put_swap _ 19 18 _ _ (by decide), put_swap _ 20 7 _ _ (by decide), put_swap _ 19 7 _ _ (by decide), put_swap _ 18 7 _ _ (by decide), put_swap _ 17 7 _ _ (by decide), put_swap _ 16 7 _ _ (by decide), put_swap _ 15 7 _ _ (by decide), put_swap _ 20 8 _ _ (by decide), put_swap _ 19 8 _ _ (by decide), put_swap _ 18 8 _ _ (by decide), put_swap _ 17 8 _ _ (by decide), put_swap _ 16 8 _ _ (by decide), put_swap _ 15 8 _ _ (by decide)]⟩
      · intro K hK
        refine wp_makeB _ (.tmp 17) (.tmp 17) rfl len ((ev_other _ _ (by decide)).trans (ev_same _ _ _ (by simp only [sz_put]; omega))) ((ev_other _ _ (by decide)).trans (ev_same _ _ _ (by simp only [sz_put]; omega))) (by omega) ?_
        intro w1 e1 h1 k1
        refine hK _ _ (fun _ => trivial) ?_
        clear hK K
        show SeqI _ _ _ _ _ _ (Act.put _ (some 18) _) _
        refine sI_two rfl rfl (wanted_rd rfl) (wanted_rd rfl) ?_ ?_
        · intro K hK
          refine wp_makeB _ (.tmp 15) (.tmp 15) rfl len ((ev_other _ _ (by decide)).trans ((ev_other _ _ (by decide)).trans ((ev_other _ _ (by decide)).trans (ev_same _ _ _ (by omega))))) ((ev_other _ _ (by decide)).trans ((ev_other _ _ (by decide)).trans ((ev_other _ _ (by decide)).trans (ev_same _ _ _ (by omega))))) (by omega) ?_
          intro w2 e2 h2 k2
          refine hK _ _ (fun _ => trivial) ?_
          clear hK K
          show SeqI _ _ _ _ _ _ (Act.put _ (some 16) _) _
          refine sI_read (v := (.slice (some ⟨w1.heap.size, 0, none⟩) len len)) rfl (fun _ _ _ h => absurd h.1 (fun e => nomatch e)) (wanted_rd rfl) trivial (fun wx _ => run_assign (.tmp 16) rfl (ev_same _ _ _ (by simp only [sz_put]; omega)) wx) ?_
          show SeqI _ _ _ _ _ _ (Act.put _ (some 6) _) _
          refine sI_read (v := (.slice (some ⟨w.drew.heap.size, 0, none⟩) len len)) rfl (fun _ _ _ h => absurd h.1 (fun e => nomatch e)) (wanted_rd rfl) trivial (fun wx _ => run_assign (.tmp 18) rfl ((ev_other _ _ (by decide)).trans ((ev_other _ _ (by decide)).trans (ev_same _ _ _ (by simp only [sz_put]; omega)))) wx) ?_
          show SeqI _ _ _ _ _ _ (Act.put _ (some 7) _) _
          refine sI_do rfl (wanted_rd rfl) (fun K hK => ?_)
          refine wp_makeB _ (.tmp 19) (.tmp 19) rfl len ((ev_other _ _ (by decide)).trans ((ev_other _ _ (by decide)).trans ((ev_other _ _ (by decide)).trans ((ev_other _ _ (by decide)).trans (ev_same _ _ _ (by simp only [sz_put]; omega)))))) ((ev_other _ _ (by decide)).trans ((ev_other _ _ (by decide)).trans ((ev_other _ _ (by decide)).trans ((ev_other _ _ (by decide)).trans (ev_same _ _ _ (by simp only [sz_put]; omega)))))) (by omega) ?_
          intro w3 e3 h3 k3
          refine hK _ _ (fun _ => trivial) ?_
          clear hK K
          show SeqI _ _ _ _ _ _ (Act.put _ (some 20) _) _
          refine sI_read (v := (.slice (some ⟨w2.heap.size, 0, none⟩) len len)) rfl (fun _ _ _ h => absurd h.1 (fun e => nomatch e)) (wanted_rd rfl) trivial (fun wx _ => run_assign (.tmp 20) rfl (ev_same _ _ _ (by simp only [sz_put]; omega)) wx) ?_
          show SeqI _ _ _ _ _ _ (Act.put _ (some 8) _) _
          refine sI_end ?_
          have z1 : w1.heap.size = w.heap.size + 1 := by rw [e1, al_size]; rfl
          have z2 : w2.heap.size = w.heap.size + 2 := by rw [e2, al_size, z1]
          have z0 : w.drew.heap.size = w.heap.size := rfl
          have b1 : Below w.heap.size w w1 := (below_drew (Below.refl _ _)).trans k1
          have b2 : Below w.heap.size w w2 := b1.trans (k2.mono (by omega))
          have b3 : Below w.heap.size w w3 := b2.trans (k3.mono (by omega))
          exact ⟨rfl, w1.heap.size, w.drew.heap.size, w2.heap.size, by omega, by omega, by omega, by omega, by omega, by omega, (h2.below k3), ((h1.below k2).below k3), h3, b3, by rw [put_swap _ 19 18 _ _ (by decide), put_swap _ 19 16 _ _ (by decide), put_swap _ 18 16 _ _ (by decide), put_swap _ 17 16 _ _ (by decide), put_swap _ 19 6 _ _ (by decide), put_swap _ 18 6 _ _ (by decide), put_swap _ 17 6 _ _ (by decide), put_swap _ 16 6 _ _ (by decide), put_swap _ 15 6 _ _ (by decide), put_swap _ 19 7 _ _ (by decide), put_swap _ 18 7 _ _ (by decide), put_swap _ 17 7 _ _ (by decide), put_swap _ 16 7 _ _ (by decide), put_swap _ 15 7 _ _ (by decide), put_swap _ 20 8 _ _ (by decide), put_swap _ 19 8 _ _ (by decide), put_swap _ 18 8 _ _ (by decide), put_swap _ 17 8 _ _ (by decide), put_swap _ 16 8 _ _ (by decide), put_swap _ 15 8 _ _ (by decide)]⟩
        · intro K hK
          refine wp_makeB _ (.tmp 19) (.tmp 19) rfl len ((ev_other _ _ (by decide)).trans (ev_same _ _ _ (by simp only [sz_put]; omega))) ((ev_other _ _ (by decide)).trans (ev_same _ _ _ (by simp only [sz_put]; omega))) (by omega) ?_
          intro w2 e2 h2 k2
          refine hK _ _ (fun _ => trivial) ?_
          clear hK K
          show SeqI _ _ _ _ _ _ (Act.put _ (some 20) _) _
          refine sI_do rfl (wanted_rd rfl) (fun K hK => ?_)
          refine wp_makeB _ (.tmp 15) (.tmp 15) rfl len ((ev_other _ _ (by decide)).trans ((ev_other _ _ (by decide)).trans ((ev_other _ _ (by decide)).trans ((ev_other _ _ (by decide)).trans (ev_same _ _ _ (by omega)))))) ((ev_other _ _ (by decide)).trans ((ev_other _ _ (by decide)).trans ((ev_other _ _ (by decide)).trans ((ev_other _ _ (by decide)).trans (ev_same _ _ _ (by omega)))))) (by omega) ?_
          intro w3 e3 h3 k3
          refine hK _ _ (fun _ => trivial) ?_
          clear hK K
          show SeqI _ _ _ _ _ _ (Act.put _ (some 16) _) _
          refine sI_read (v := (.slice (some ⟨w2.heap.size, 0, none⟩) len len)) rfl (fun _ _ _ h => absurd h.1 (fun e => nomatch e)) (wanted_rd rfl) trivial (fun wx _ => run_assign (.tmp 16) rfl (ev_same _ _ _ (by simp only [sz_put]; omega)) wx) ?_
          show SeqI _ _ _ _ _ _ (Act.put _ (some 6) _) _
          refine sI_read (v := (.slice (some ⟨w.drew.heap.size, 0, none⟩) len len)) rfl (fun _ _ _ h => absurd h.1 (fun e => nomatch e)) (wanted_rd rfl) trivial (fun wx _ => run_assign (.tmp 18) rfl ((ev_other _ _ (by decide)).trans ((ev_other _ _ (by decide)).trans ((ev_other _ _ (by decide)).trans (ev_same _ _ _ (by simp only [sz_put]; omega))))) wx) ?_
          show SeqI _ _ _ _ _ _ (Act.put _ (some 7) _) _
          refine sI_read (v := (.slice (some ⟨w1.heap.size, 0, none⟩) len len)) rfl (fun _ _ _ h => absurd h.1 (fun e => nomatch e)) (wanted_rd rfl) trivial (fun wx _ => run_assign (.tmp 20) rfl ((ev_other _ _ (by decide)).trans ((ev_other _ _ (by decide)).trans ((ev_other _ _ (by decide)).trans (ev_same _ _ _ (by simp only [sz_put]; omega))))) wx) ?_
          show SeqI _ _ _ _ _ _ (Act.put _ (some 8) _) _
          refine sI_end ?_
          have z1 : w1.heap.size = w.heap.size + 1 := by rw [e1, al_size]; rfl
          have z2 : w2.heap.size = w.heap.size + 2 := by rw [e2, al_size, z1]
          have z0 : w.drew.heap.size = w.heap.size := rfl
          have b1 : Below w.heap.size w w1 := (below_drew (Below.refl _ _)).trans k1
          have b2 : Below w.heap.size w w2 := b1.trans (k2.mono (by omega))
          have b3 : Below w.heap.size w w3 := b2.trans (k3.mono (by omega))
          exact ⟨rfl, w2.heap.size, w.drew.heap.size, w1.heap.size, by omega, by omega, by omega, by omega, by omega, by omega, h3, ((h1.below k2).below k3), (h2.below k3), b3, by rw [put_swap _ 19 18 _ _ (by decide), put_swap _ 20 16 _ _ (by decide), put_swap _ 19 16 _ _ (by decide), put_swap _ 18 16 _ _ (by decide), put_swap _ 17 16 _ _ (by decide), put_swap _ 20 6 _ _ (by decide), put_swap _ 19 6 _ _ (by decide), put_swap _ 18 6 _ _ (by decide), put_swap _ 17 6 _ _ (by decide), put_swap _ 16 6 _ _ (by decide), put_swap _ 15 6 _ _ (by decide), put_swap _ 20 7 _ _ (by decide), put_swap _ 19 7 _ _ (by decide), put_swap _ 18 7 _ _ (by decide), put_swap _ 17 7 _ _ (by decide), put_swap _ 16 7 _ _ (by decide), put_swap _ 15 7 _ _ (by decide), put_swap _ 20 8 _ _ (by decide), put_swap _ 19 8 _ _ (by decide), put_swap _ 18 8 _ _ (by decide), put_swap _ 17 8 _ _ (by decide), put_swap _ 16 8 _ _ (by decide), put_swap _ 15 8 _ _ (by decide)]⟩
      · intro K hK
        refine wp_makeB _ (.tmp 19) (.tmp 19) rfl len (ev_same _ _ _ (by simp only [sz_put]; omega)) (ev_same _ _ _ (by simp only [sz_put]; omega)) (by omega) ?_
        intro w1 e1 h1 k1
        refine hK _ _ (fun _ => trivial) ?_
        clear hK K
        show SeqI _ _ _ _ _ _ (Act.put _ (some 20) _) _
        refine sI_two rfl rfl (wanted_rd rfl) (wanted_rd rfl) ?_ ?_
        · intro K hK
          refine wp_makeB _ (.tmp 15) (.tmp 15) rfl len ((ev_other _ _ (by decide)).trans ((ev_other _ _ (by decide)).trans ((ev_other _ _ (by decide)).trans (ev_same _ _ _ (by omega))))) ((ev_other _ _ (by decide)).trans ((ev_other _ _ (by decide)).trans ((ev_other _ _ (by decide)).trans (ev_same _ _ _ (by omega))))) (by omega) ?_
          intro w2 e2 h2 k2
          refine hK _ _ (fun _ => trivial) ?_
          clear hK K
          show SeqI _ _ _ _ _ _ (Act.put _ (some 16) _) _
          refine sI_read (v := (.slice (some ⟨w1.heap.size, 0, none⟩) len len)) rfl (fun _ _ _ h => absurd h.1 (fun e => nomatch e)) (wanted_rd rfl) trivial (fun wx _ => run_assign (.tmp 16) rfl (ev_same _ _ _ (by simp only [sz_put]; omega)) wx) ?_
          show SeqI _ _ _ _ _ _ (Act.put _ (some 6) _) _
          refine sI_do rfl (wanted_rd rfl) (fun K hK => ?_)
          refine wp_makeB _ (.tmp 17) (.tmp 17) rfl len ((ev_other _ _ (by decide)).trans ((ev_other _ _ (by decide)).trans ((ev_other _ _ (by decide)).trans ((ev_other _ _ (by decide)).trans (ev_same _ _ _ (by simp only [sz_put]; omega)))))) ((ev_other _ _ (by decide)).trans ((ev_other _ _ (by decide)).trans ((ev_other _ _ (by decide)).trans ((ev_other _ _ (by decide)).trans (ev_same _ _ _ (by simp only [sz_put]; omega)))))) (by omega) ?_
          intro w3 e3 h3 k3
          refine hK _ _ (fun _ => trivial) ?_
          clear hK K
          show SeqI _ _ _ _ _ _ (Act.put _ (some 18) _) _
          refine sI_read (v := (.slice (some ⟨w2.heap.size, 0, none⟩) len len)) rfl (fun _ _ _ h => absurd h.1 (fun e => nomatch e)) (wanted_rd rfl) trivial (fun wx _ => run_assign (.tmp 18) rfl (ev_same _ _ _ (by simp only [sz_put]; omega)) wx) ?_
          show SeqI _ _ _ _ _ _ (Act.put _ (some 7) _) _
          refine sI_read (v := (.slice (some ⟨w.drew.heap.size, 0, none⟩) len len)) rfl (fun _ _ _ h => absurd h.1 (fun e => nomatch e)) (wanted_rd rfl) trivial (fun wx _ => run_assign (.tmp 20) rfl ((ev_other _ _ (by decide)).trans ((ev_other _ _ (by decide)).trans ((ev_other _ _ (by decide)).trans ((ev_other _ _ (by decide)).trans (ev_same _ _ _ (by simp only [sz_put]; omega)))))) wx) ?_
          show SeqI _ _ _ _ _ _ (Act.put _ (some 8) _) _
          refine sI_end ?_
          have z1 : w1.heap.size = w.heap.size + 1 := by rw [e1, al_size]; rfl
          have z2 : w2.heap.size = w.heap.size + 2 := by rw [e2, al_size, z1]
          have z0 : w.drew.heap.size = w.heap.size := rfl
          have b1 : Below w.heap.size w w1 := (below_drew (Below.refl _ _)).trans k1
          have b2 : Below w.heap.size w w2 := b1.trans (k2.mono (by omega))
          have b3 : Below w.heap.size w w3 := b2.trans (k3.mono (by omega))
          exact ⟨rfl, w1.heap.size, w2.heap.size, w.drew.heap.size, by omega, by omega, by omega, by omega, by omega, by omega, (h2.below k3), h3, ((h1.below k2).below k3), b3, by rw [put_swap _ 20 16 _ _ (by decide), put_swap _ 19 16 _ _ (by decide), put_swap _ 17 16 _ _ (by decide), put_swap _ 20 6 _ _ (by decide), put_swap _ 19 6 _ _ (by decide), put_swap _ 17 6 _ _ (by decide), put_swap _ 16 6 _ _ (by decide), put_swap _ 15 6 _ _ (by decide), put_swap _ 20 18 _ _ (by decide), put_swap _ 19 18 _ _ (by decide), put_swap _ 20 7 _ _ (by decide), put_swap _ 19 7 _ _ (by decide), put_swap _ 18 7 _ _ (by decide), put_swap _ 17 7 _ _ (by decide), put_swap _ 16 7 _ _ (by decide), put_swap _ 15 7 _ _ (by decide), put_swap _ 20 8 _ _ (by decide), put_swap _ 19 8 _ _ (by decide), put_swap _ 18 8 _ _ (by decide), put_swap _ 17 8 _ _ (by decide), put_swap _ 16 8 _ _ (by decide), put_swap _ 15 8 _ _ (by decide)]⟩
        · intro K hK
          refine wp_makeB _ (.tmp 17) (.tmp 17) rfl len ((ev_other _ _ (by decide)).trans ((ev_other _ _ (by decide)).trans (ev_same _ _ _ (by simp only [sz_put]; omega)))) ((ev_other _ _ (by decide)).trans ((ev_other _ _ (by decide)).trans (ev_same _ _ _ (by simp only [sz_put]; omega)))) (by omega) ?_
          intro w2 e2 h2 k2
          refine hK _ _ (fun _ => trivial) ?_
          clear hK K
          show SeqI _ _ _ _ _ _ (Act.put _ (some 18) _) _
          refine sI_do rfl (wanted_rd rfl) (fun K hK => ?_)
          refine wp_makeB _ (.tmp 15) (.tmp 15) rfl len ((ev_other _ _ (by decide)).trans ((ev_other _ _ (by decide)).trans ((ev_other _ _ (by decide)).trans ((ev_other _ _ (by decide)).trans (ev_same _ _ _ (by omega)))))) ((ev_other _ _ (by decide)).trans ((ev_other _ _ (by decide)).trans ((ev_other _ _ (by decide)).trans ((ev_other _ _ (by decide)).trans (ev_same _ _ _ (by omega)))))) (by omega) ?_
          intro w3 e3 h3 k3
          refine hK _ _ (fun _ => trivial) ?_
          clear hK K
          show SeqI _ _ _ _ _ _ (Act.put _ (some 16) _) _
          refine sI_read (v := (.slice (some ⟨w2.heap.size, 0, none⟩) len len)) rfl (fun _ _ _ h => absurd h.1 (fun e => nomatch e)) (wanted_rd rfl) trivial (fun wx _ => run_assign (.tmp 16) rfl (ev_same _ _ _ (by simp only [sz_put]; omega)) wx) ?_
          show SeqI _ _ _ _ _ _ (Act.put _ (some 6) _) _
          refine sI_read (v := (.slice (some ⟨w1.heap.size, 0, none⟩) len len)) rfl (fun _ _ _ h => absurd h.1 (fun e => nomatch e)) (wanted_rd rfl) trivial (fun wx _ => run_assign (.tmp 18) rfl ((ev_other _ _ (by decide)).trans ((ev_other _ _ (by decide)).trans (ev_same _ _ _ (by simp only [sz_put]; omega)))) wx) ?_
          show SeqI _ _ _ _ _ _ (Act.put _ (some 7) _) _
          refine sI_read (v := (.slice (some ⟨w.drew.heap.size, 0, none⟩) len len)) rfl (fun _ _ _ h => absurd h.1 (fun e => nomatch e)) (wanted_rd rfl) trivial (fun wx _ => run_assign (.tmp 20) rfl ((ev_other _ _ (by decide)).trans ((ev_other _ _ (by decide)).trans ((ev_other _ _ (by decide)).trans ((ev_other _ _ (by decide)).trans (ev_same _ _ _ (by simp only [sz_put]; omega)))))) wx) ?_
          show SeqI _ _ _ _ _ _ (Act.put _ (some 8) _) _
          refine sI_end ?_
          have z1 : w1.heap.size = w.heap.size + 1 := by rw [e1, al_size]; rfl
          have z2 : w2.heap.size = w.heap.size + 2 := by rw [e2, al_size, z1]
          have z0 : w.drew.heap.size = w.heap.size := rfl
          have b1 : Below w.heap.size w w1 := (below_drew (Below.refl _ _)).trans k1
          have b2 : Below w.heap.size w w2 := b1.trans (k2.mono (by omega))
          have b3 : Below w.heap.size w w3 := b2.trans (k3.mono (by omega))
          exact ⟨rfl, w2.heap.size, w1.heap.size, w.drew.heap.size, by omega, by omega, by omega, by omega, by omega, by omega, h3, (h2.below k3), ((h1.below k2).below k3), b3, by rw [put_swap _ 20 18 _ _ (by decide), put_swap _ 19 18 _ _ (by decide), put_swap _ 20 16 _ _ (by decide), put_swap _ 19 16 _ _ (by decide), put_swap _ 18 16 _ _ (by decide), put_swap _ 17 16 _ _ (by decide), put_swap _ 20 6 _ _ (by decide), put_swap _ 19 6 _ _ (by decide), put_swap _ 18 6 _ _ (by decide), put_swap _ 17 6 _ _ (by decide), put_swap _ 16 6 _ _ (by decide), put_swap _ 15 6 _ _ (by decide), put_swap _ 20 7 _ _ (by decide), put_swap _ 19 7 _ _ (by decide), put_swap _ 18 7 _ _ (by decide), put_swap _ 17 7 _ _ (by decide), put_swap _ 16 7 _ _ (by decide), put_swap _ 15 7 _ _ (by decide), put_swap _ 20 8 _ _ (by decide), put_swap _ 19 8 _ _ (by decide), put_swap _ 18 8 _ _ (by decide), put_swap _ 17 8 _ _ (by decide), put_swap _ 16 8 _ _ (by decide), put_swap _ 15 8 _ _ (by decide)]⟩
    case rest =>
      rintro a' w2 ⟨bx, by_, bz, d1, d2, d3, s1, s2, s3, vx, vy, vz, k2, rfl⟩
      have VX := hide vx; have VY := hide vy; have VZ := hide vz; have K2 := hide k2
      clear vx vy vz k2
      go_wp2_with fail
      go_loopw [9] (fun is wr => ∃ i : Nat, is = .int .i64 i ∧ i ≤ len ∧ Vh 5 wr bx len len (bF (flF g i)) ∧ Vh 5 wr by_ len len (bF (flF f i)) ∧ Vh 5 wr bz len len (bF (flF (fun j => g j ^^^ f j) i)) ∧ Below w.heap.size w wr) (fun is _ => len - (intOf is).toNat)
      case atStart => exact ⟨0, rfl, Nat.zero_le _, unhide VX, unhide VY, unhide VZ, unhide K2⟩
      case round =>
        obtain ⟨i, rfl, hi, vx, vy, vz, k3⟩ := hrel
        have VX2 := hide vx; have VY2 := hide vy; have VZ2 := hide vz; have K3 := hide k3
        clear VX VY VZ K2 vx vy vz k3
        by_cases hin : i < len
        · obtain ⟨ba, oa, ea, ca⟩ := unhide HR |>.rd (by omega)
          obtain ⟨bb, ob, eb, cb⟩ := unhide HR2 |>.rd (by omega)
          have la : ba < w.heap.size := World.block_lt_of_cell? w ⟨ba, oa + 0, none⟩ (ca 0 (by omega))
          have lb : bb < w.heap.size := World.block_lt_of_cell? w ⟨bb, ob + 0, none⟩ (cb 0 (by omega))
          have sa := at_below (ca i (by omega)) (unhide K3)
          have sb := at_below (cb i (by omega)) (unhide K3)
          have SC := hide (show Cl8 ba (oa + i) bb (ob + i) (g i) (f i) _ from ⟨sa, sb⟩)
          have EA := hide ea; have EB := hide eb
          clear ca cb sa sb ea eb
          go_wp2_with fail
          rename World => wr
          refine wp_leaves (fun a0 a' w' => w' = (((wr.drew.setCell ⟨bx, 0 + i, none⟩ (bV (g i))).setCell ⟨by_, 0 + i, none⟩ (bV (f i))).setCell ⟨bz, 0 + i, none⟩ (bV (g i ^^^ f i))) ∧ a' = ((((((((((((((((((((((((((a0.put (some 26) (.slice (some ⟨bx, 0, none⟩) len len)).put (some 27) (.int .i64 (i : Nat))).put (some 28) (.slice (some ⟨by_, 0, none⟩) len len)).put (some 29) (.int .i64 (i : Nat))).put (some 30) (.slice (some ⟨bz, 0, none⟩) len len)).put (some 31) (.int .i64 (i : Nat))).put (some 32) (.slice (some ⟨ba, oa, none⟩) len cap)).put (some 33) (.int .i64 (i : Nat))).put (some 34) (.pointer (some ⟨ba, oa + i, none⟩))).put (some 35) (bV (g i))).put (some 36) (.slice (some ⟨bb, ob, none⟩) len2 cap2)).put (some 37) (.int .i64 (i : Nat))).put (some 38) (.pointer (some ⟨bb, ob + i, none⟩))).put (some 39) (bV (f i))).put (some 40) (.slice (some ⟨ba, oa, none⟩) len cap)).put (some 41) (.int .i64 (i : Nat))).put (some 42) (.pointer (some ⟨ba, oa + i, none⟩))).put (some 43) (bV (g i))).put (some 44) (.slice (some ⟨bb, ob, none⟩) len2 cap2)).put (some 45) (.int .i64 (i : Nat))).put (some 46) (.pointer (some ⟨bb, ob + i, none⟩))).put (some 47) (bV (f i))).put (some 48) (bV (g i ^^^ f i))).put (some 49) (.pointer (some ⟨bx, 0 + i, none⟩))).put (some 50) (.pointer (some ⟨by_, 0 + i, none⟩))).put (some 51) (.pointer (some ⟨bz, 0 + i, none⟩)))) ?reg ?rest
          case reg =>
            intro A eA
            have b0 : A.eval (.tmp 0) = (.slice (some ⟨ba, oa, none⟩) len cap) := by rw [eA, ← unhide EA]; rfl
            have b1 : A.eval (.tmp 1) = (.slice (some ⟨bb, ob, none⟩) len2 cap2) := by rw [eA, ← unhide EB]; rfl
            have b6 : A.eval (.tmp 6) = (.slice (some ⟨bx, 0, none⟩) len len) := by rw [eA]; rfl
            have b7 : A.eval (.tmp 7) = (.slice (some ⟨by_, 0, none⟩) len len) := by rw [eA]; rfl
            have b8 : A.eval (.tmp 8) = (.slice (some ⟨bz, 0, none⟩) len len) := by rw [eA]; rfl
            have b9 : A.eval (.tmp 9) = (.int .i64 (i : Nat)) := by rw [eA]; rfl
            have hs : 67 ≤ A.tmps.size := by rw [eA]; exact of_decide_eq_true rfl
            clear eA
            have hS : Cl8 ba (oa + i) bb (ob + i) (g i) (f i) wr.drew := unhide SC
            refine region_I (S := Cl8 ba (oa + i) bb (ob + i) (g i) (f i)) (.rd 0 (.rd 1 (.rd 2 (.rd 3 (.rd 4 (.rd 5 (.rd 6 (.rd 7 (.rd 8 (.rd 9 (.rd 10 (.rd 11 (.rd 12 (.rd 13 (.rd 14 (.rd 15 (.rd 16 (.rd 17 (.rd 18 (.rd 19 (.rd 20 (.rd 21 (.rd 22 (.rd 23 (.go 24 (.rd 25 (.go 26 (.rd 27 (.go 28 .fin))))))))))))))))))))))))))))) [] (by kernel_rfl) (by kernel_rfl) ?_
            refine sI_read (v := (.slice (some ⟨bx, 0, none⟩) len len)) rfl (fun _ _ _ h => absurd h.1 (fun e => nomatch e)) (wanted_rd rfl) hS (fun wx _ => run_move (.tmp 6) rfl b6 wx) ?_
            show SeqI _ _ _ _ _ _ (Act.put _ (some 26) _) _
            refine sI_read (v := (.int .i64 (i : Nat))) rfl (fun _ _ _ h => absurd h.1 (fun e => nomatch e)) (wanted_rd rfl) hS (fun wx _ => run_move (.tmp 9) rfl ((ev_other _ _ (by decide)).trans b9) wx) ?_
            show SeqI _ _ _ _ _ _ (Act.put _ (some 27) _) _
            refine sI_read (v := (.slice (some ⟨by_, 0, none⟩) len len)) rfl (fun _ _ _ h => absurd h.1 (fun e => nomatch e)) (wanted_rd rfl) hS (fun wx _ => run_move (.tmp 7) rfl ((ev_other _ _ (by decide)).trans ((ev_other _ _ (by decide)).trans b7)) wx) ?_
            show SeqI _ _ _ _ _ _ (Act.put _ (some 28) _) _
            refine sI_read (v := (.int .i64 (i : Nat))) rfl (fun _ _ _ h => absurd h.1 (fun e => nomatch e)) (wanted_rd rfl) hS (fun wx _ => run_move (.tmp 9) rfl ((ev_other _ _ (by decide)).trans ((ev_other _ _ (by decide)).trans ((ev_other _ _ (by decide)).trans b9))) wx) ?_
            show SeqI _ _ _ _ _ _ (Act.put _ (some 29) _) _
            refine sI_read (v := (.slice (some ⟨bz, 0, none⟩) len len)) rfl (fun _ _ _ h => absurd h.1 (fun e => nomatch e)) (wanted_rd rfl) hS (fun wx _ => run_move (.tmp 8) rfl ((ev_other _ _ (by decide)).trans ((ev_other _ _ (by decide)).trans ((ev_other _ _ (by decide)).trans ((ev_other _ _ (by decide)).trans b8)))) wx) ?_
            show SeqI _ _ _ _ _ _ (Act.put _ (some 30) _) _
            refine sI_read (v := (.int .i64 (i : Nat))) rfl (fun _ _ _ h => absurd h.1 (fun e => nomatch e)) (wanted_rd rfl) hS (fun wx _ => run_move (.tmp 9) rfl ((ev_other _ _ (by decide)).trans ((ev_other _ _ (by decide)).trans ((ev_other _ _ (by decide)).trans ((ev_other _ _ (by decide)).trans ((ev_other _ _ (by decide)).trans b9))))) wx) ?_
            show SeqI _ _ _ _ _ _ (Act.put _ (some 31) _) _
            refine sI_read (v := (.slice (some ⟨ba, oa, none⟩) len cap)) rfl (fun _ _ _ h => absurd h.1 (fun e => nomatch e)) (wanted_rd rfl) hS (fun wx _ => run_move (.tmp 0) rfl ((ev_other _ _ (by decide)).trans ((ev_other _ _ (by decide)).trans ((ev_other _ _ (by decide)).trans ((ev_other _ _ (by decide)).trans ((ev_other _ _ (by decide)).trans ((ev_other _ _ (by decide)).trans b0)))))) wx) ?_
            show SeqI _ _ _ _ _ _ (Act.put _ (some 32) _) _
            refine sI_read (v := (.int .i64 (i : Nat))) rfl (fun _ _ _ h => absurd h.1 (fun e => nomatch e)) (wanted_rd rfl) hS (fun wx _ => run_move (.tmp 9) rfl ((ev_other _ _ (by decide)).trans ((ev_other _ _ (by decide)).trans ((ev_other _ _ (by decide)).trans ((ev_other _ _ (by decide)).trans ((ev_other _ _ (by decide)).trans ((ev_other _ _ (by decide)).trans ((ev_other _ _ (by decide)).trans b9))))))) wx) ?_
            show SeqI _ _ _ _ _ _ (Act.put _ (some 33) _) _
            refine sI_read (v := (.pointer (some ⟨ba, oa + i, none⟩))) rfl (fun _ _ _ h => absurd h.1 (fun e => nomatch e)) (wanted_rd rfl) hS (fun wx _ => run_indexB (.tmp 32) (.tmp 33) rfl ((ev_other _ _ (by decide)).trans (ev_same _ _ _ (by simp only [sz_put]; omega))) (ev_same _ _ _ (by simp only [sz_put]; omega)) (by omega) wx) ?_
            show SeqI _ _ _ _ _ _ (Act.put _ (some 34) _) _
            refine sI_read (v := (bV (g i))) rfl (fun _ _ _ h => absurd h.1 (fun e => nomatch e)) (wanted_rd rfl) hS (fun wx hx => run_loadB (.tmp 34) rfl (ev_same _ _ _ (by simp only [sz_put]; omega)) hx.1) ?_
            show SeqI _ _ _ _ _ _ (Act.put _ (some 35) _) _
            refine sI_read (v := (.slice (some ⟨bb, ob, none⟩) len2 cap2)) rfl (fun _ _ _ h => absurd h.1 (fun e => nomatch e)) (wanted_rd rfl) hS (fun wx _ => run_move (.tmp 1) rfl ((ev_other _ _ (by decide)).trans ((ev_other _ _ (by decide)).trans ((ev_other _ _ (by decide)).trans ((ev_other _ _ (by decide)).trans ((ev_other _ _ (by decide)).trans ((ev_other _ _ (by decide)).trans ((ev_other _ _ (by decide)).trans ((ev_other _ _ (by decide)).trans ((ev_other _ _ (by decide)).trans ((ev_other _ _ (by decide)).trans b1)))))))))) wx) ?_
            show SeqI _ _ _ _ _ _ (Act.put _ (some 36) _) _
            refine sI_read (v := (.int .i64 (i : Nat))) rfl (fun _ _ _ h => absurd h.1 (fun e => nomatch e)) (wanted_rd rfl) hS (fun wx _ => run_move (.tmp 9) rfl ((ev_other _ _ (by decide)).trans ((ev_other _ _ (by decide)).trans ((ev_other _ _ (by decide)).trans ((ev_other _ _ (by decide)).trans ((ev_other _ _ (by decide)).trans ((ev_other _ _ (by decide)).trans ((ev_other _ _ (by decide)).trans ((ev_other _ _ (by decide)).trans ((ev_other _ _ (by decide)).trans ((ev_other _ _ (by decide)).trans ((ev_other _ _ (by decide)).trans b9))))))))))) wx) ?_
            show SeqI _ _ _ _ _ _ (Act.put _ (some 37) _) _
            refine sI_read (v := (.pointer (some ⟨bb, ob + i, none⟩))) rfl (fun _ _ _ h => absurd h.1 (fun e => nomatch e)) (wanted_rd rfl) hS (fun wx _ => run_indexB (.tmp 36) (.tmp 37) rfl ((ev_other _ _ (by decide)).trans (ev_same _ _ _ (by simp only [sz_put]; omega))) (ev_same _ _ _ (by simp only [sz_put]; omega)) (by omega) wx) ?_
            show SeqI _ _ _ _ _ _ (Act.put _ (some 38) _) _
            refine sI_read (v := (bV (f i))) rfl (fun _ _ _ h => absurd h.1 (fun e => nomatch e)) (wanted_rd rfl) hS (fun wx hx => run_loadB (.tmp 38) rfl (ev_same _ _ _ (by simp only [sz_put]; omega)) hx.2) ?_
            show SeqI _ _ _ _ _ _ (Act.put _ (some 39) _) _
            refine sI_read (v := (.slice (some ⟨ba, oa, none⟩) len cap)) rfl (fun _ _ _ h => absurd h.1 (fun e => nomatch e)) (wanted_rd rfl) hS (fun wx _ => run_move (.tmp 0) rfl ((ev_other _ _ (by decide)).trans ((ev_other _ _ (by decide)).trans ((ev_other _ _ (by decide)).trans ((ev_other _ _ (by decide)).trans ((ev_other _ _ (by decide)).trans ((ev_other _ _ (by decide)).trans ((ev_other _ _ (by decide)).trans ((ev_other _ _ (by decide)).trans ((ev_other _ _ (by decide)).trans ((ev_other _ _ (by decide)).trans ((ev_other _ _ (by decide)).trans ((ev_other _ _ (by decide)).trans ((ev_other _ _ (by decide)).trans ((ev_other _ _ (by decide)).trans b0)))))))))))))) wx) ?_
            show SeqI _ _ _ _ _ _ (Act.put _ (some 40) _) _
            refine sI_read (v := (.int .i64 (i : Nat))) rfl (fun _ _ _ h => absurd h.1 (fun e => nomatch e)) (wanted_rd rfl) hS (fun wx _ => run_move (.tmp 9) rfl ((ev_other _ _ (by decide)).trans ((ev_other _ _ (by decide)).trans ((ev_other _ _ (by decide)).trans ((ev_other _ _ (by decide)).trans ((ev_other _ _ (by decide)).trans ((ev_other _ _ (by decide)).trans ((ev_other _ _ (by decide)).trans ((ev_other _ _ (by decide)).trans ((ev_other _ _ (by decide)).trans ((ev_other _ _ (by decide)).trans ((ev_other _ _ (by decide)).trans ((ev_other _ _ (by decide)).trans ((ev_other _ _ (by decide)).trans ((ev_other _ _ (by decide)).trans ((ev_other _ _ (by decide)).trans b9))))))))))))))) wx) ?_
            show SeqI _ _ _ _ _ _ (Act.put _ (some 41) _) _
            refine sI_read (v := (.pointer (some ⟨ba, oa + i, none⟩))) rfl (fun _ _ _ h => absurd h.1 (fun e => nomatch e)) (wanted_rd rfl) hS (fun wx _ => run_indexB (.tmp 40) (.tmp 41) rfl ((ev_other _ _ (by decide)).trans (ev_same _ _ _ (by simp only [sz_put]; omega))) (ev_same _ _ _ (by simp only [sz_put]; omega)) (by omega) wx) ?_
            show SeqI _ _ _ _ _ _ (Act.put _ (some 42) _) _
            refine sI_read (v := (bV (g i))) rfl (fun _ _ _ h => absurd h.1 (fun e => nomatch e)) (wanted_rd rfl) hS (fun wx hx => run_loadB (.tmp 42) rfl (ev_same _ _ _ (by simp only [sz_put]; omega)) hx.1) ?_
            show SeqI _ _ _ _ _ _ (Act.put _ (some 43) _) _
            refine sI_read (v := (.slice (some ⟨bb, ob, none⟩) len2 cap2)) rfl (fun _ _ _ h => absurd h.1 (fun e => nomatch e)) (wanted_rd rfl) hS (fun wx _ => run_move (.tmp 1) rfl ((ev_other _ _ (by decide)).trans ((ev_other _ _ (by decide)).trans ((ev_other _ _ (by decide)).trans ((ev_other _ _ (by decide)).trans ((ev_other _ _ (by decide)).trans ((ev_other _ _ (by decide)).trans ((ev_other _ _ (by decide)).trans ((ev_other _ _ (by decide)).trans ((ev_other _ _ (by decide)).trans ((ev_other _ _ (by decide)).trans ((ev_other _ _ (by decide)).trans ((ev_other _ _ (by decide)).trans ((ev_other _ _ (by decide)).trans ((ev_other _ _ (by decide)).trans ((ev_other _ _ (by decide)).trans ((ev_other _ _ (by decide)).trans ((ev_other _ _ (by decide)).trans ((ev_other _ _ (by decide)).trans b1)))))))))))))))))) wx) ?_
            show SeqI _ _ _ _ _ _ (Act.put _ (some 44) _) _
            refine sI_read (v := (.int .i64 (i : Nat))) rfl (fun _ _ _ h => absurd h.1 (fun e => nomatch e)) (wanted_rd rfl) hS (fun wx _ => run_move (.tmp 9) rfl ((ev_other _ _ (by decide)).trans ((ev_other _ _ (by decide)).trans ((ev_other _ _ (by decide)).trans ((ev_other _ _ (by decide)).trans ((ev_other _ _ (by decide)).trans ((ev_other _ _ (by decide)).trans ((ev_other _ _ (by decide)).trans ((ev_other _ _ (by decide)).trans ((ev_other _ _ (by decide)).trans ((ev_other _ _ (by decide)).trans ((ev_other _ _ (by decide)).trans ((ev_other _ _ (by decide)).trans ((ev_other _ _ (by decide)).trans ((ev_other _ _ (by decide)).trans ((ev_other _ _ (by decide)).trans ((ev_other _ _ (by decide)).trans ((ev_other _ _ (by decide)).trans ((ev_other _ _ (by decide)).trans ((ev_other _ _ (by decide)).trans b9))))))))))))))))))) wx) ?_
            show SeqI _ _ _ _ _ _ (Act.put _ (some 45) _) _
            refine sI_read (v := (.pointer (some ⟨bb, ob + i, none⟩))) rfl (fun _ _ _ h => absurd h.1 (fun e => nomatch e)) (wanted_rd rfl) hS (fun wx _ => run_indexB (.tmp 44) (.tmp 45) rfl ((ev_other _ _ (by decide)).trans (ev_same _ _ _ (by simp only [sz_put]; omega))) (ev_same _ _ _ (by simp only [sz_put]; omega)) (by omega) wx) ?_
            show SeqI _ _ _ _ _ _ (Act.put _ (some 46) _) _
            refine sI_read (v := (bV (f i))) rfl (fun _ _ _ h => absurd h.1 (fun e => nomatch e)) (wanted_rd rfl) hS (fun wx hx => run_loadB (.tmp 46) rfl (ev_same _ _ _ (by simp only [sz_put]; omega)) hx.2) ?_
            show SeqI _ _ _ _ _ _ (Act.put _ (some 47) _) _
            refine sI_read (v := (bV (g i ^^^ f i))) rfl (fun _ _ _ h => absurd h.1 (fun e => nomatch e)) (wanted_rd rfl) hS (fun wx _ => run_xorB (.tmp 43) (.tmp 47) rfl ((ev_other _ _ (by decide)).trans ((ev_other _ _ (by decide)).trans ((ev_other _ _ (by decide)).trans ((ev_other _ _ (by decide)).trans (ev_same _ _ _ (by simp only [sz_put]; omega)))))) (ev_same _ _ _ (by simp only [sz_put]; omega)) (unhide HG i) (unhide HG2 i) wx) ?_
            show SeqI _ _ _ _ _ _ (Act.put _ (some 48) _) _
            refine sI_read (v := (.pointer (some ⟨bx, 0 + i, none⟩))) rfl (fun _ _ _ h => absurd h.1 (fun e => nomatch e)) (wanted_rd rfl) hS (fun wx _ => run_indexB (.tmp 26) (.tmp 27) rfl ((ev_other _ _ (by decide)).trans ((ev_other _ _ (by decide)).trans ((ev_other _ _ (by decide)).trans ((ev_other _ _ (by decide)).trans ((ev_other _ _ (by decide)).trans ((ev_other _ _ (by decide)).trans ((ev_other _ _ (by decide)).trans ((ev_other _ _ (by decide)).trans ((ev_other _ _ (by decide)).trans ((ev_other _ _ (by decide)).trans ((ev_other _ _ (by decide)).trans ((ev_other _ _ (by decide)).trans ((ev_other _ _ (by decide)).trans ((ev_other _ _ (by decide)).trans ((ev_other _ _ (by decide)).trans ((ev_other _ _ (by decide)).trans ((ev_other _ _ (by decide)).trans ((ev_other _ _ (by decide)).trans ((ev_other _ _ (by decide)).trans ((ev_other _ _ (by decide)).trans ((ev_other _ _ (by decide)).trans ((ev_other _ _ (by decide)).trans (ev_same _ _ _ (by omega)))))))))))))))))))))))) ((ev_other _ _ (by decide)).trans ((ev_other _ _ (by decide)).trans ((ev_other _ _ (by decide)).trans ((ev_other _ _ (by decide)).trans ((ev_other _ _ (by decide)).trans ((ev_other _ _ (by decide)).trans ((ev_other _ _ (by decide)).trans ((ev_other _ _ (by decide)).trans ((ev_other _ _ (by decide)).trans ((ev_other _ _ (by decide)).trans ((ev_other _ _ (by decide)).trans ((ev_other _ _ (by decide)).trans ((ev_other _ _ (by decide)).trans ((ev_other _ _ (by decide)).trans ((ev_other _ _ (by decide)).trans ((ev_other _ _ (by decide)).trans ((ev_other _ _ (by decide)).trans ((ev_other _ _ (by decide)).trans ((ev_other _ _ (by decide)).trans ((ev_other _ _ (by decide)).trans ((ev_other _ _ (by decide)).trans (ev_same _ _ _ (by simp only [sz_put]; omega))))))))))))))))))))))) (by omega) wx) ?_
            show SeqI _ _ _ _ _ _ (Act.put _ (some 49) _) _
            refine sI_do rfl (wanted_rd rfl) (fun K hK => ?_)
            have c0 : (wr.drew : World).cell? ⟨bx, 0 + i, none⟩ = some (bF (flF g i) i) := (show Vh 5 wr.drew bx len len (bF (flF g i)) from ((unhide VX2).same (w' := wr.drew) rfl)).cellz hin
            have f0 : (wr.drew : World).frozen? ⟨bx, 0 + i, none⟩ = false := (show Vh 5 wr.drew bx len len _ from ((unhide VX2).same (w' := wr.drew) rfl)).free _
            have hS1 : Cl8 ba (oa + i) bb (ob + i) (g i) (f i) ((wr.drew).setCell ⟨bx, 0 + i, none⟩ (bV (g i))) := hS.set bx (0 + i) (bV (g i)) (by omega) (by omega)
            refine wp_storeB _ (.tmp 49) (.tmp 35) rfl (ev_same _ _ _ (by simp only [sz_put]; omega)) ((ev_other _ _ (by decide)).trans ((ev_other _ _ (by decide)).trans ((ev_other _ _ (by decide)).trans ((ev_other _ _ (by decide)).trans ((ev_other _ _ (by decide)).trans ((ev_other _ _ (by decide)).trans ((ev_other _ _ (by decide)).trans ((ev_other _ _ (by decide)).trans ((ev_other _ _ (by decide)).trans ((ev_other _ _ (by decide)).trans ((ev_other _ _ (by decide)).trans ((ev_other _ _ (by decide)).trans ((ev_other _ _ (by decide)).trans ((ev_other _ _ (by decide)).trans (ev_same _ _ _ (by simp only [sz_put]; omega)))))))))))))))) c0 f0 rfl ?_
            refine hK _ _ (fun _ => hS1) ?_
            clear hK K
            refine sI_read (v := (.pointer (some ⟨by_, 0 + i, none⟩))) rfl (fun _ _ _ h => absurd h.1 (fun e => nomatch e)) (wanted_rd rfl) hS1 (fun wx _ => run_indexB (.tmp 28) (.tmp 29) rfl ((ev_other _ _ (by decide)).trans ((ev_other _ _ (by decide)).trans ((ev_other _ _ (by decide)).trans ((ev_other _ _ (by decide)).trans ((ev_other _ _ (by decide)).trans ((ev_other _ _ (by decide)).trans ((ev_other _ _ (by decide)).trans ((ev_other _ _ (by decide)).trans ((ev_other _ _ (by decide)).trans ((ev_other _ _ (by decide)).trans ((ev_other _ _ (by decide)).trans ((ev_other _ _ (by decide)).trans ((ev_other _ _ (by decide)).trans ((ev_other _ _ (by decide)).trans ((ev_other _ _ (by decide)).trans ((ev_other _ _ (by decide)).trans ((ev_other _ _ (by decide)).trans ((ev_other _ _ (by decide)).trans ((ev_other _ _ (by decide)).trans ((ev_other _ _ (by decide)).trans ((ev_other _ _ (by decide)).trans (ev_same _ _ _ (by simp only [sz_put]; omega))))))))))))))))))))))) ((ev_other _ _ (by decide)).trans ((ev_other _ _ (by decide)).trans ((ev_other _ _ (by decide)).trans ((ev_other _ _ (by decide)).trans ((ev_other _ _ (by decide)).trans ((ev_other _ _ (by decide)).trans ((ev_other _ _ (by decide)).trans ((ev_other _ _ (by decide)).trans ((ev_other _ _ (by decide)).trans ((ev_other _ _ (by decide)).trans ((ev_other _ _ (by decide)).trans ((ev_other _ _ (by decide)).trans ((ev_other _ _ (by decide)).trans ((ev_other _ _ (by decide)).trans ((ev_other _ _ (by decide)).trans ((ev_other _ _ (by decide)).trans ((ev_other _ _ (by decide)).trans ((ev_other _ _ (by decide)).trans ((ev_other _ _ (by decide)).trans ((ev_other _ _ (by decide)).trans (ev_same _ _ _ (by simp only [sz_put]; omega)))))))))))))))))))))) (by omega) wx) ?_
            show SeqI _ _ _ _ _ _ (Act.put _ (some 50) _) _
            refine sI_do rfl (wanted_rd rfl) (fun K hK => ?_)
            have c1 : (((wr.drew).setCell ⟨bx, 0 + i, none⟩ (bV (g i))) : World).cell? ⟨by_, 0 + i, none⟩ = some (bF (flF f i) i) := (show Vh 5 ((wr.drew).setCell ⟨bx, 0 + i, none⟩ (bV (g i))) by_ len len (bF (flF f i)) from (((unhide VY2).same (w' := wr.drew) rfl).kept (kept_set _ bx _ _) (by omega))).cellz hin
            have f1 : (((wr.drew).setCell ⟨bx, 0 + i, none⟩ (bV (g i))) : World).frozen? ⟨by_, 0 + i, none⟩ = false := (show Vh 5 ((wr.drew).setCell ⟨bx, 0 + i, none⟩ (bV (g i))) by_ len len _ from (((unhide VY2).same (w' := wr.drew) rfl).kept (kept_set _ bx _ _) (by omega))).free _
            have hS2 : Cl8 ba (oa + i) bb (ob + i) (g i) (f i) ((((wr.drew).setCell ⟨bx, 0 + i, none⟩ (bV (g i)))).setCell ⟨by_, 0 + i, none⟩ (bV (f i))) := hS1.set by_ (0 + i) (bV (f i)) (by omega) (by omega)
            refine wp_storeB _ (.tmp 50) (.tmp 39) rfl (ev_same _ _ _ (by simp only [sz_put]; omega)) ((ev_other _ _ (by decide)).trans ((ev_other _ _ (by decide)).trans ((ev_other _ _ (by decide)).trans ((ev_other _ _ (by decide)).trans ((ev_other _ _ (by decide)).trans ((ev_other _ _ (by decide)).trans ((ev_other _ _ (by decide)).trans ((ev_other _ _ (by decide)).trans ((ev_other _ _ (by decide)).trans ((ev_other _ _ (by decide)).trans ((ev_other _ _ (by decide)).trans (ev_same _ _ _ (by simp only [sz_put]; omega))))))))))))) c1 f1 rfl ?_
            refine hK _ _ (fun _ => hS2) ?_
            clear hK K
            refine sI_read (v := (.pointer (some ⟨bz, 0 + i, none⟩))) rfl (fun _ _ _ h => absurd h.1 (fun e => nomatch e)) (wanted_rd rfl) hS2 (fun wx _ => run_indexB (.tmp 30) (.tmp 31) rfl ((ev_other _ _ (by decide)).trans ((ev_other _ _ (by decide)).trans ((ev_other _ _ (by decide)).trans ((ev_other _ _ (by decide)).trans ((ev_other _ _ (by decide)).trans ((ev_other _ _ (by decide)).trans ((ev_other _ _ (by decide)).trans ((ev_other _ _ (by decide)).trans ((ev_other _ _ (by decide)).trans ((ev_other _ _ (by decide)).trans ((ev_other _ _ (by decide)).trans ((ev_other _ _ (by decide)).trans ((ev_other _ _ (by decide)).trans ((ev_other _ _ (by decide)).trans ((ev_other _ _ (by decide)).trans ((ev_other _ _ (by decide)).trans ((ev_other _ _ (by decide)).trans ((ev_other _ _ (by decide)).trans ((ev_other _ _ (by decide)).trans ((ev_other _ _ (by decide)).trans (ev_same _ _ _ (by simp only [sz_put]; omega)))))))))))))))))))))) ((ev_other _ _ (by decide)).trans ((ev_other _ _ (by decide)).trans ((ev_other _ _ (by decide)).trans ((ev_other _ _ (by decide)).trans ((ev_other _ _ (by decide)).trans ((ev_other _ _ (by decide)).trans ((ev_other _ _ (by decide)).trans ((ev_other _ _ (by decide)).trans ((ev_other _ _ (by decide)).trans ((ev_other _ _ (by decide)).trans ((ev_other _ _ (by decide)).trans ((ev_other _ _ (by decide)).trans ((ev_other _ _ (by decide)).trans ((ev_other _ _ (by decide)).trans ((ev_other _ _ (by decide)).trans ((ev_other _ _ (by decide)).trans ((ev_other _ _ (by decide)).trans ((ev_other _ _ (by decide)).trans ((ev_other _ _ (by decide)).trans (ev_same _ _ _ (by simp only [sz_put]; omega))))))))))))))))))))) (by omega) wx) ?_
            show SeqI _ _ _ _ _ _ (Act.put _ (some 51) _) _
            refine sI_do rfl (wanted_rd rfl) (fun K hK => ?_)
            have c2 : (((((wr.drew).setCell ⟨bx, 0 + i, none⟩ (bV (g i)))).setCell ⟨by_, 0 + i, none⟩ (bV (f i))) : World).cell? ⟨bz, 0 + i, none⟩ = some (bF (flF (fun j => g j ^^^ f j) i) i) := (show Vh 5 ((((wr.drew).setCell ⟨bx, 0 + i, none⟩ (bV (g i)))).setCell ⟨by_, 0 + i, none⟩ (bV (f i))) bz len len (bF (flF (fun j => g j ^^^ f j) i)) from ((((unhide VZ2).same (w' := wr.drew) rfl).kept (kept_set _ bx _ _) (by omega)).kept (kept_set _ by_ _ _) (by omega))).cellz hin
            have f2 : (((((wr.drew).setCell ⟨bx, 0 + i, none⟩ (bV (g i)))).setCell ⟨by_, 0 + i, none⟩ (bV (f i))) : World).frozen? ⟨bz, 0 + i, none⟩ = false := (show Vh 5 ((((wr.drew).setCell ⟨bx, 0 + i, none⟩ (bV (g i)))).setCell ⟨by_, 0 + i, none⟩ (bV (f i))) bz len len _ from ((((unhide VZ2).same (w' := wr.drew) rfl).kept (kept_set _ bx _ _) (by omega)).kept (kept_set _ by_ _ _) (by omega))).free _
            have hS3 : Cl8 ba (oa + i) bb (ob + i) (g i) (f i) ((((((wr.drew).setCell ⟨bx, 0 + i, none⟩ (bV (g i)))).setCell ⟨by_, 0 + i, none⟩ (bV (f i)))).setCell ⟨bz, 0 + i, none⟩ (bV (g i ^^^ f i))) := hS2.set bz (0 + i) (bV (g i ^^^ f i)) (by omega) (by omega)
            refine wp_storeB _ (.tmp 51) (.tmp 48) rfl (ev_same _ _ _ (by simp only [sz_put]; omega)) ((ev_other _ _ (by decide)).trans ((ev_other _ _ (by decide)).trans ((ev_other _ _ (by decide)).trans (ev_same _ _ _ (by simp only [sz_put]; omega))))) c2 f2 rfl ?_
            refine hK _ _ (fun _ => hS3) ?_
            clear hK K
            refine sI_end ?_
            exact ⟨rfl, rfl, rfl⟩
          case rest =>
            rintro a' w3 ⟨rfl, rfl⟩
            have vx : Vh 5 (((wr.drew.setCell ⟨bx, 0 + i, none⟩ (bV (g i))).setCell ⟨by_, 0 + i, none⟩ (bV (f i))).setCell ⟨bz, 0 + i, none⟩ (bV (g i ^^^ f i))) bx len len (bF (flF g (i + 1))) := by rw [← flF_step g i]; exact ((((unhide VX2).same (w' := wr.drew) rfl).setz i (bV (g i))).kept (kept_set _ by_ (0 + i) (bV (f i))) (by omega)).kept (kept_set _ bz (0 + i) (bV (g i ^^^ f i))) (by omega)
            have vy : Vh 5 (((wr.drew.setCell ⟨bx, 0 + i, none⟩ (bV (g i))).setCell ⟨by_, 0 + i, none⟩ (bV (f i))).setCell ⟨bz, 0 + i, none⟩ (bV (g i ^^^ f i))) by_ len len (bF (flF f (i + 1))) := by rw [← flF_step f i]; exact ((((unhide VY2).same (w' := wr.drew) rfl).kept (kept_set _ bx (0 + i) (bV (g i))) (by omega)).setz i (bV (f i))).kept (kept_set _ bz (0 + i) (bV (g i ^^^ f i))) (by omega)
            have vz : Vh 5 (((wr.drew.setCell ⟨bx, 0 + i, none⟩ (bV (g i))).setCell ⟨by_, 0 + i, none⟩ (bV (f i))).setCell ⟨bz, 0 + i, none⟩ (bV (g i ^^^ f i))) bz len len (bF (flF (fun j => g j ^^^ f j) (i + 1))) := by rw [← flF_step (fun j => g j ^^^ f j) i]; exact ((((unhide VZ2).same (w' := wr.drew) rfl).kept (kept_set _ bx (0 + i) (bV (g i))) (by omega)).kept (kept_set _ by_ (0 + i) (bV (f i))) (by omega)).setz i (bV (g i ^^^ f i))
            have k4 := below_of_kept (below_of_kept (below_of_kept (below_drew (unhide K3)) (kept_set _ bx (0 + i) (bV (g i))) s1 (unhide K3).size) (kept_set _ by_ (0 + i) (bV (f i))) s2 (by simp [World.setCell]; exact (unhide K3).size)) (kept_set _ bz (0 + i) (bV (g i ^^^ f i))) s3 (by simp [World.setCell]; exact (unhide K3).size)
            obtain ⟨w5, e5⟩ : ∃ w5, w5 = (((wr.drew.setCell ⟨bx, 0 + i, none⟩ (bV (g i))).setCell ⟨by_, 0 + i, none⟩ (bV (f i))).setCell ⟨bz, 0 + i, none⟩ (bV (g i ^^^ f i))) := ⟨_, rfl⟩
            rw [← e5] at vx vy vz k4 ⊢
            have VX5 := hide vx; have VY5 := hide vy; have VZ5 := hide vz; have K5 := hide k4
            clear vx vy vz k4 e5 VX2 VY2 VZ2 K3 SC
            go_wp2_with fail
            go_roundw
            case rel => exact ⟨i + 1, by go_num, by omega, unhide VX5, unhide VY5, unhide VZ5, unhide K5⟩
            case measure => simp [intOf] <;> omega
        · have e6 : i = len := by omega
          rw [e6] at VX2 VY2 VZ2 ⊢
          have X3 := hide (flF_end (unhide VX2)).rd; have Y3 := hide (flF_end (unhide VY2)).rd; have Z3 := hide (flF_end (unhide VZ2)).rd
          clear VX2 VY2 VZ2 hi hin e6
          go_wp2_with fail
          rename World => wr
          refine wp_leaves (fun a0 a' w' => Below w.heap.size w w' ∧ a'.defers = a0.defers ∧ a'.eval (.tmp 4) = .bool true) ?reg ?rest
          case reg =>
            intro A eA
            have b5 : A.eval (.tmp 5) = .int .i64 (len : Nat) := by rw [eA]; rfl
            have b6 : A.eval (.tmp 6) = (.slice (some ⟨bx, 0, none⟩) len len) := by rw [eA]; rfl
            have b7 : A.eval (.tmp 7) = (.slice (some ⟨by_, 0, none⟩) len len) := by rw [eA]; rfl
            have b8 : A.eval (.tmp 8) = (.slice (some ⟨bz, 0, none⟩) len len) := by rw [eA]; rfl
            have hs : 67 ≤ A.tmps.size := by rw [eA]; exact of_decide_eq_true rfl
            clear eA
            refine region_I (S := fun _ => True) (.go 0 (.rd 1 (.rd 2 (.rd 4 (.rd 7 (.rd 9 (.two 3 10 (.two 5 10 (.rd 6 (.two 8 10 (.go 10 (.go 11 (.rd 12 (.rd 13 (.rd 14 (.rd 15 .fin)))))) (.go 8 (.go 11 (.rd 12 (.rd 13 (.rd 14 (.rd 15 .fin)))))))) (.go 5 (.rd 6 (.go 8 (.go 11 (.rd 12 (.rd 13 (.rd 14 (.rd 15 .fin))))))))) (.go 3 (.go 5 (.rd 6 (.go 8 (.go 11 (.rd 12 (.rd 13 (.rd 14 (.rd 15 .fin)))))))))))))))) [] (by kernel_rfl) (by kernel_rfl) ?_
            refine sI_do rfl (wanted_rd rfl) (fun K hK => ?_)
            refine wp_call0 _ 18 #[] rfl (enter_sums _) (sums_any _) ?_
            rintro e w1 ⟨rfl, j1⟩
            refine ⟨_, rfl, hK _ _ (fun _ => trivial) ?_⟩
            clear hK K
            have k1 : Below w.heap.size w w1 := (below_drew (unhide K3)).trans (j1.mono (unhide K3).size)
            show SeqI _ _ _ _ _ _ (Act.put _ (some 52) _) _
            refine sI_read (v := (.bool true)) rfl (fun _ _ _ h => absurd h.1 (fun e => nomatch e)) (wanted_rd rfl) trivial (fun wx _ => run_move (.tmp 52) rfl (ev_same _ _ _ (by omega)) wx) ?_
            show SeqI _ _ _ _ _ _ (Act.put _ (some 53) _) _
            refine sI_read (v := (.slice (some ⟨bx, 0, none⟩) len len)) rfl (fun _ _ _ h => absurd h.1 (fun e => nomatch e)) (wanted_g rfl rfl rfl (ev_same _ _ _ (by simp only [sz_put]; omega))) trivial (fun wx _ => run_move (.tmp 6) rfl ((ev_other _ _ (by decide)).trans ((ev_other _ _ (by decide)).trans b6)) wx) ?_
            show SeqI _ _ _ _ _ _ (Act.put _ (some 54) _) _
            refine sI_read (v := (.slice (some ⟨by_, 0, none⟩) len len)) rfl (fun _ _ _ h => absurd h.1 (fun e => nomatch e)) (wanted_g rfl rfl rfl ((ev_other _ _ (by decide)).trans (ev_same _ _ _ (by simp only [sz_put]; omega)))) trivial (fun wx _ => run_move (.tmp 7) rfl ((ev_other _ _ (by decide)).trans ((ev_other _ _ (by decide)).trans ((ev_other _ _ (by decide)).trans b7))) wx) ?_
            show SeqI _ _ _ _ _ _ (Act.put _ (some 56) _) _
            refine sI_read (v := (.slice (some ⟨bz, 0, none⟩) len len)) rfl (fun _ _ _ h => absurd h.1 (fun e => nomatch e)) (wanted_g rfl rfl rfl ((ev_other _ _ (by decide)).trans ((ev_other _ _ (by decide)).trans (ev_same _ _ _ (by simp only [sz_put]; omega))))) trivial (fun wx _ => run_move (.tmp 8) rfl ((ev_other _ _ (by decide)).trans ((ev_other _ _ (by decide)).trans ((ev_other _ _ (by decide)).trans ((ev_other _ _ (by decide)).trans b8)))) wx) ?_
            show SeqI _ _ _ _ _ _ (Act.put _ (some 59) _) _
            refine sI_read (v := (.int .i64 (len : Nat))) rfl (fun _ _ _ h => absurd h.1 (fun e => nomatch e)) (wanted_g rfl rfl rfl ((ev_other _ _ (by decide)).trans ((ev_other _ _ (by decide)).trans ((ev_other _ _ (by decide)).trans (ev_same _ _ _ (by simp only [sz_put]; omega)))))) trivial (fun wx _ => run_move (.tmp 5) rfl ((ev_other _ _ (by decide)).trans ((ev_other _ _ (by decide)).trans ((ev_other _ _ (by decide)).trans ((ev_other _ _ (by decide)).trans ((ev_other _ _ (by decide)).trans b5))))) wx) ?_
            show SeqI _ _ _ _ _ _ (Act.put _ (some 61) _) _
            have q1 : Below wr.heap.size wr w1 := (below_drew (Below.refl _ _)).trans j1
            refine sI_two rfl rfl (wanted_g rfl rfl rfl ((ev_other _ _ (by decide)).trans ((ev_other _ _ (by decide)).trans ((ev_other _ _ (by decide)).trans ((ev_other _ _ (by decide)).trans (ev_same _ _ _ (by simp only [sz_put]; omega))))))) (wanted_g rfl rfl rfl ((ev_other _ _ (by decide)).trans ((ev_other _ _ (by decide)).trans ((ev_other _ _ (by decide)).trans ((ev_other _ _ (by decide)).trans (ev_same _ _ _ (by simp only [sz_put]; omega))))))) ?_ ?_
            · intro K hK
              refine wp_call1 _ 9 (.tmp 54) #[22] rfl ((ev_other _ _ (by decide)).trans ((ev_other _ _ (by decide)).trans ((ev_other _ _ (by decide)).trans (ev_same _ _ _ (by simp only [sz_put]; omega))))) (enter_sum _ _) (sum_any (some ⟨bx, 0, none⟩) len len g _ (unhide HG) (by omega) ((unhide X3).below q1)) ?_
              rintro e w2 ⟨rfl, j2⟩
              refine ⟨_, rfl, hK _ _ (fun _ => trivial) ?_⟩
              clear hK K
              have k2 : Below w.heap.size w w2 := k1.trans (j2.mono k1.size)
              show SeqI _ _ _ _ _ _ (Act.put _ (some 55) _) _
              have q2 : Below wr.heap.size wr w2 := q1.trans (j2.mono q1.size)
              refine sI_two rfl rfl (wanted_g rfl rfl rfl ((ev_other _ _ (by decide)).trans ((ev_other _ _ (by decide)).trans ((ev_other _ _ (by decide)).trans ((ev_other _ _ (by decide)).trans ((ev_other _ _ (by decide)).trans (ev_same _ _ _ (by simp only [sz_put]; omega)))))))) (wanted_g rfl rfl rfl ((ev_other _ _ (by decide)).trans ((ev_other _ _ (by decide)).trans ((ev_other _ _ (by decide)).trans ((ev_other _ _ (by decide)).trans ((ev_other _ _ (by decide)).trans (ev_same _ _ _ (by simp only [sz_put]; omega)))))))) ?_ ?_
              · intro K hK
                refine wp_call1 _ 9 (.tmp 56) #[22] rfl ((ev_other _ _ (by decide)).trans ((ev_other _ _ (by decide)).trans ((ev_other _ _ (by decide)).trans (ev_same _ _ _ (by simp only [sz_put]; omega))))) (enter_sum _ _) (sum_any (some ⟨by_, 0, none⟩) len len f _ (unhide HG2) (by omega) ((unhide Y3).below q2)) ?_
                rintro e w3 ⟨rfl, j3⟩
                refine ⟨_, rfl, hK _ _ (fun _ => trivial) ?_⟩
                clear hK K
                have k3 : Below w.heap.size w w3 := k2.trans (j3.mono k2.size)
                show SeqI _ _ _ _ _ _ (Act.put _ (some 57) _) _
                have q3 : Below wr.heap.size wr w3 := q2.trans (j3.mono q2.size)
                refine sI_read (v := (.int .i64 ((moreN 0 g len ^^^ moreN 0 f len : Nat) : Int))) rfl (fun _ _ _ h => absurd h.1 (fun e => nomatch e)) (wanted_g rfl rfl rfl ((ev_other _ _ (by decide)).trans ((ev_other _ _ (by decide)).trans ((ev_other _ _ (by decide)).trans ((ev_other _ _ (by decide)).trans ((ev_other _ _ (by decide)).trans ((ev_other _ _ (by decide)).trans (ev_same _ _ _ (by simp only [sz_put]; omega))))))))) trivial (fun wx _ => run_xorI (.tmp 55) (.tmp 57) rfl ((ev_other _ _ (by decide)).trans (ev_same _ _ _ (by simp only [sz_put]; omega))) (ev_same _ _ _ (by simp only [sz_put]; omega)) (moreN_lt _ _ _) (moreN_lt _ _ _) wx) ?_
                show SeqI _ _ _ _ _ _ (Act.put _ (some 58) _) _
                refine sI_two rfl rfl (wanted_g rfl rfl rfl ((ev_other _ _ (by decide)).trans ((ev_other _ _ (by decide)).trans ((ev_other _ _ (by decide)).trans ((ev_other _ _ (by decide)).trans ((ev_other _ _ (by decide)).trans ((ev_other _ _ (by decide)).trans ((ev_other _ _ (by decide)).trans (ev_same _ _ _ (by simp only [sz_put]; omega)))))))))) (wanted_g rfl rfl rfl ((ev_other _ _ (by decide)).trans ((ev_other _ _ (by decide)).trans ((ev_other _ _ (by decide)).trans ((ev_other _ _ (by decide)).trans ((ev_other _ _ (by decide)).trans ((ev_other _ _ (by decide)).trans ((ev_other _ _ (by decide)).trans (ev_same _ _ _ (by simp only [sz_put]; omega)))))))))) ?_ ?_
                · intro K hK
                  refine wp_call1 _ 9 (.tmp 59) #[22] rfl ((ev_other _ _ (by decide)).trans ((ev_other _ _ (by decide)).trans ((ev_other _ _ (by decide)).trans ((ev_other _ _ (by decide)).trans (ev_same _ _ _ (by simp only [sz_put]; omega)))))) (enter_sum _ _) (sum_any (some ⟨bz, 0, none⟩) len len (fun j => g j ^^^ f j) _ (fun j => Nat.xor_lt_two_pow (n := 8) (unhide HG j) (unhide HG2 j)) (by omega) ((unhide Z3).below q3)) ?_
                  rintro e w4 ⟨rfl, j4⟩
                  refine ⟨_, rfl, hK _ _ (fun _ => trivial) ?_⟩
                  clear hK K
                  have k4 : Below w.heap.size w w4 := k3.trans (j4.mono k3.size)
                  show SeqI _ _ _ _ _ _ (Act.put _ (some 60) _) _
                  have q4 : Below wr.heap.size wr w4 := q3.trans (j4.mono q3.size)
                  refine sI_do rfl (wanted_g rfl rfl rfl ((ev_other _ _ (by decide)).trans ((ev_other _ _ (by decide)).trans ((ev_other _ _ (by decide)).trans ((ev_other _ _ (by decide)).trans ((ev_other _ _ (by decide)).trans ((ev_other _ _ (by decide)).trans ((ev_other _ _ (by decide)).trans ((ev_other _ _ (by decide)).trans (ev_same _ _ _ (by simp only [sz_put]; omega))))))))))) (fun K hK => ?_)
                  refine wp_makeB _ (.tmp 61) (.tmp 61) rfl len ((ev_other _ _ (by decide)).trans ((ev_other _ _ (by decide)).trans ((ev_other _ _ (by decide)).trans ((ev_other _ _ (by decide)).trans (ev_same _ _ _ (by simp only [sz_put]; omega)))))) ((ev_other _ _ (by decide)).trans ((ev_other _ _ (by decide)).trans ((ev_other _ _ (by decide)).trans ((ev_other _ _ (by decide)).trans (ev_same _ _ _ (by simp only [sz_put]; omega)))))) (by omega) ?_
                  intro w5 e5 vz j5
                  refine hK _ _ (fun _ => trivial) ?_
                  clear hK K e5
                  have k5 : Below w.heap.size w w5 := k4.trans (j5.mono k4.size)
                  show SeqI _ _ _ _ _ _ (Act.put _ (some 62) _) _
                  have q5 : Below wr.heap.size wr w5 := q4.trans (j5.mono q4.size)
                  refine sI_do rfl (wanted_g rfl rfl rfl ((ev_other _ _ (by decide)).trans ((ev_other _ _ (by decide)).trans ((ev_other _ _ (by decide)).trans ((ev_other _ _ (by decide)).trans ((ev_other _ _ (by decide)).trans ((ev_other _ _ (by decide)).trans ((ev_other _ _ (by decide)).trans ((ev_other _ _ (by decide)).trans ((ev_other _ _ (by decide)).trans (ev_same _ _ _ (by simp only [sz_put]; omega)))))))))))) (fun K hK => ?_)
                  refine wp_call1 _ 9 (.tmp 62) #[22] rfl (ev_same _ _ _ (by simp only [sz_put]; omega)) (enter_sum _ _) (sum_any (some ⟨w4.heap.size, 0, none⟩) len len (fun _ => 0) _ (fun _ => by show 0 < 256; omega) (by omega) vz.rd) ?_
                  rintro e w6 ⟨rfl, j6⟩
                  refine ⟨_, rfl, hK _ _ (fun _ => trivial) ?_⟩
                  clear hK K
                  have k6 : Below w.heap.size w w6 := k5.trans (j6.mono k5.size)
                  show SeqI _ _ _ _ _ _ (Act.put _ (some 63) _) _
                  refine sI_read (v := (.int .i64 ((moreN 0 (fun j => g j ^^^ f j) len ^^^ moreN 0 (fun _ => 0) len : Nat) : Int))) rfl (fun _ _ _ h => absurd h.1 (fun e => nomatch e)) (wanted_g rfl rfl rfl ((ev_other _ _ (by decide)).trans ((ev_other _ _ (by decide)).trans ((ev_other _ _ (by decide)).trans ((ev_other _ _ (by decide)).trans ((ev_other _ _ (by decide)).trans ((ev_other _ _ (by decide)).trans ((ev_other _ _ (by decide)).trans ((ev_other _ _ (by decide)).trans ((ev_other _ _ (by decide)).trans ((ev_other _ _ (by decide)).trans (ev_same _ _ _ (by simp only [sz_put]; omega))))))))))))) trivial (fun wx _ => run_xorI (.tmp 60) (.tmp 63) rfl ((ev_other _ _ (by decide)).trans ((ev_other _ _ (by decide)).trans (ev_same _ _ _ (by simp only [sz_put]; omega)))) (ev_same _ _ _ (by simp only [sz_put]; omega)) (moreN_lt _ _ _) (moreN_lt _ _ _) wx) ?_
                  show SeqI _ _ _ _ _ _ (Act.put _ (some 64) _) _
                  refine sI_read (v := (.bool true)) rfl (fun _ _ _ h => absurd h.1 (fun e => nomatch e)) (wanted_g rfl rfl rfl ((ev_other _ _ (by decide)).trans ((ev_other _ _ (by decide)).trans ((ev_other _ _ (by decide)).trans ((ev_other _ _ (by decide)).trans ((ev_other _ _ (by decide)).trans ((ev_other _ _ (by decide)).trans ((ev_other _ _ (by decide)).trans ((ev_other _ _ (by decide)).trans ((ev_other _ _ (by decide)).trans ((ev_other _ _ (by decide)).trans ((ev_other _ _ (by decide)).trans (ev_same _ _ _ (by simp only [sz_put]; omega)))))))))))))) trivial (fun wx _ => run_eqlI (.tmp 58) (.tmp 64) rfl ((ev_other _ _ (by decide)).trans ((ev_other _ _ (by decide)).trans ((ev_other _ _ (by decide)).trans ((ev_other _ _ (by decide)).trans (ev_same _ _ _ (by simp only [sz_put]; omega)))))) (by rw [more_lin (unhide HG) (unhide HG2)]; exact (ev_same _ _ _ (by simp only [sz_put]; omega))) wx) ?_
                  show SeqI _ _ _ _ _ _ (Act.put _ (some 65) _) _
                  refine sI_read (v := (.bool true)) rfl (fun _ _ _ h => absurd h.1 (fun e => nomatch e)) (wanted_rd rfl) trivial (fun wx _ => run_pickT (.tmp 53) (.tmp 65) _ rfl ((ev_other _ _ (by decide)).trans ((ev_other _ _ (by decide)).trans ((ev_other _ _ (by decide)).trans ((ev_other _ _ (by decide)).trans ((ev_other _ _ (by decide)).trans ((ev_other _ _ (by decide)).trans ((ev_other _ _ (by decide)).trans ((ev_other _ _ (by decide)).trans ((ev_other _ _ (by decide)).trans ((ev_other _ _ (by decide)).trans ((ev_other _ _ (by decide)).trans ((ev_other _ _ (by decide)).trans (ev_same _ _ _ (by simp only [sz_put]; omega)))))))))))))) (ev_same _ _ _ (by simp only [sz_put]; omega)) wx) ?_
                  show SeqI _ _ _ _ _ _ (Act.put _ (some 66) _) _
                  refine sI_read (v := (.bool true)) rfl (fun _ _ _ h => absurd h.1 (fun e => nomatch e)) (wanted_rd rfl) trivial (fun wx _ => run_assign (.tmp 66) rfl (ev_same _ _ _ (by simp only [sz_put]; omega)) wx) ?_
                  show SeqI _ _ _ _ _ _ (Act.put _ (some 4) _) _
                  refine sI_end ?_
                  exact ⟨rfl, k6, by simp only [put_def], (ev_same _ _ _ (by simp only [sz_put]; omega))⟩
                · intro K hK
                  refine wp_makeB _ (.tmp 61) (.tmp 61) rfl len ((ev_other _ _ (by decide)).trans ((ev_other _ _ (by decide)).trans ((ev_other _ _ (by decide)).trans (ev_same _ _ _ (by simp only [sz_put]; omega))))) ((ev_other _ _ (by decide)).trans ((ev_other _ _ (by decide)).trans ((ev_other _ _ (by decide)).trans (ev_same _ _ _ (by simp only [sz_put]; omega))))) (by omega) ?_
                  intro w4 e4 vz j4
                  refine hK _ _ (fun _ => trivial) ?_
                  clear hK K e4
                  have k4 : Below w.heap.size w w4 := k3.trans (j4.mono k3.size)
                  show SeqI _ _ _ _ _ _ (Act.put _ (some 62) _) _
                  have q4 : Below wr.heap.size wr w4 := q3.trans (j4.mono q3.size)
                  refine sI_do rfl (wanted_g rfl rfl rfl ((ev_other _ _ (by decide)).trans ((ev_other _ _ (by decide)).trans ((ev_other _ _ (by decide)).trans ((ev_other _ _ (by decide)).trans ((ev_other _ _ (by decide)).trans ((ev_other _ _ (by decide)).trans ((ev_other _ _ (by decide)).trans ((ev_other _ _ (by decide)).trans (ev_same _ _ _ (by simp only [sz_put]; omega))))))))))) (fun K hK => ?_)
                  refine wp_call1 _ 9 (.tmp 59) #[22] rfl ((ev_other _ _ (by decide)).trans ((ev_other _ _ (by decide)).trans ((ev_other _ _ (by decide)).trans ((ev_other _ _ (by decide)).trans ((ev_other _ _ (by decide)).trans (ev_same _ _ _ (by simp only [sz_put]; omega))))))) (enter_sum _ _) (sum_any (some ⟨bz, 0, none⟩) len len (fun j => g j ^^^ f j) _ (fun j => Nat.xor_lt_two_pow (n := 8) (unhide HG j) (unhide HG2 j)) (by omega) ((unhide Z3).below q4)) ?_
                  rintro e w5 ⟨rfl, j5⟩
                  refine ⟨_, rfl, hK _ _ (fun _ => trivial) ?_⟩
                  clear hK K
                  have k5 : Below w.heap.size w w5 := k4.trans (j5.mono k4.size)
                  show SeqI _ _ _ _ _ _ (Act.put _ (some 60) _) _
                  have q5 : Below wr.heap.size wr w5 := q4.trans (j5.mono q4.size)
                  refine sI_do rfl (wanted_g rfl rfl rfl ((ev_other _ _ (by decide)).trans ((ev_other _ _ (by decide)).trans ((ev_other _ _ (by decide)).trans ((ev_other _ _ (by decide)).trans ((ev_other _ _ (by decide)).trans ((ev_other _ _ (by decide)).trans ((ev_other _ _ (by decide)).trans ((ev_other _ _ (by decide)).trans ((ev_other _ _ (by decide)).trans (ev_same _ _ _ (by simp only [sz_put]; omega)))))))))))) (fun K hK => ?_)
                  refine wp_call1 _ 9 (.tmp 62) #[22] rfl ((ev_other _ _ (by decide)).trans (ev_same _ _ _ (by simp only [sz_put]; omega))) (enter_sum _ _) (sum_any (some ⟨w3.heap.size, 0, none⟩) len len (fun _ => 0) _ (fun _ => by show 0 < 256; omega) (by omega) (vz.rd.below j5)) ?_
                  rintro e w6 ⟨rfl, j6⟩
                  refine ⟨_, rfl, hK _ _ (fun _ => trivial) ?_⟩
                  clear hK K
                  have k6 : Below w.heap.size w w6 := k5.trans (j6.mono k5.size)
                  show SeqI _ _ _ _ _ _ (Act.put _ (some 63) _) _
                  refine sI_read (v := (.int .i64 ((moreN 0 (fun j => g j ^^^ f j) len ^^^ moreN 0 (fun _ => 0) len : Nat) : Int))) rfl (fun _ _ _ h => absurd h.1 (fun e => nomatch e)) (wanted_g rfl rfl rfl ((ev_other _ _ (by decide)).trans ((ev_other _ _ (by decide)).trans ((ev_other _ _ (by decide)).trans ((ev_other _ _ (by decide)).trans ((ev_other _ _ (by decide)).trans ((ev_other _ _ (by decide)).trans ((ev_other _ _ (by decide)).trans ((ev_other _ _ (by decide)).trans ((ev_other _ _ (by decide)).trans ((ev_other _ _ (by decide)).trans (ev_same _ _ _ (by simp only [sz_put]; omega))))))))))))) trivial (fun wx _ => run_xorI (.tmp 60) (.tmp 63) rfl ((ev_other _ _ (by decide)).trans (ev_same _ _ _ (by simp only [sz_put]; omega))) (ev_same _ _ _ (by simp only [sz_put]; omega)) (moreN_lt _ _ _) (moreN_lt _ _ _) wx) ?_
                  show SeqI _ _ _ _ _ _ (Act.put _ (some 64) _) _
                  refine sI_read (v := (.bool true)) rfl (fun _ _ _ h => absurd h.1 (fun e => nomatch e)) (wanted_g rfl rfl rfl ((ev_other _ _ (by decide)).trans ((ev_other _ _ (by decide)).trans ((ev_other _ _ (by decide)).trans ((ev_other _ _ (by decide)).trans ((ev_other _ _ (by decide)).trans ((ev_other _ _ (by decide)).trans ((ev_other _ _ (by decide)).trans ((ev_other _ _ (by decide)).trans ((ev_other _ _ (by decide)).trans ((ev_other _ _ (by decide)).trans ((ev_other _ _ (by decide)).trans (ev_same _ _ _ (by simp only [sz_put]; omega)))))))))))))) trivial (fun wx _ => run_eqlI (.tmp 58) (.tmp 64) rfl ((ev_other _ _ (by decide)).trans ((ev_other _ _ (by decide)).trans ((ev_other _ _ (by decide)).trans ((ev_other _ _ (by decide)).trans (ev_same _ _ _ (by simp only [sz_put]; omega)))))) (by rw [more_lin (unhide HG) (unhide HG2)]; exact (ev_same _ _ _ (by simp only [sz_put]; omega))) wx) ?_
                  show SeqI _ _ _ _ _ _ (Act.put _ (some 65) _) _
                  refine sI_read (v := (.bool true)) rfl (fun _ _ _ h => absurd h.1 (fun e => nomatch e)) (wanted_rd rfl) trivial (fun wx _ => run_pickT (.tmp 53) (.tmp 65) _ rfl ((ev_other _ _ (by decide)).trans ((ev_other _ _ (by decide)).trans ((ev_other _ _ (by decide)).trans ((ev_other _ _ (by decide)).trans ((ev_other _ _ (by decide)).trans ((ev_other _ _ (by decide)).trans ((ev_other _ _ (by decide)).trans ((ev_other _ _ (by decide)).trans ((ev_other _ _ (by decide)).trans ((ev_other _ _ (by decide)).trans ((ev_other _ _ (by decide)).trans ((ev_other _ _ (by decide)).trans (ev_same _ _ _ (by simp only [sz_put]; omega)))))))))))))) (ev_same _ _ _ (by simp only [sz_put]; omega)) wx) ?_
                  show SeqI _ _ _ _ _ _ (Act.put _ (some 66) _) _
                  refine sI_read (v := (.bool true)) rfl (fun _ _ _ h => absurd h.1 (fun e => nomatch e)) (wanted_rd rfl) trivial (fun wx _ => run_assign (.tmp 66) rfl (ev_same _ _ _ (by simp only [sz_put]; omega)) wx) ?_
                  show SeqI _ _ _ _ _ _ (Act.put _ (some 4) _) _
                  refine sI_end ?_
                  exact ⟨rfl, k6, by simp only [put_def], (ev_same _ _ _ (by simp only [sz_put]; omega))⟩
              · intro K hK
                refine wp_makeB _ (.tmp 61) (.tmp 61) rfl len ((ev_other _ _ (by decide)).trans (ev_same _ _ _ (by simp only [sz_put]; omega))) ((ev_other _ _ (by decide)).trans (ev_same _ _ _ (by simp only [sz_put]; omega))) (by omega) ?_
                intro w3 e3 vz j3
                refine hK _ _ (fun _ => trivial) ?_
                clear hK K e3
                have k3 : Below w.heap.size w w3 := k2.trans (j3.mono k2.size)
                show SeqI _ _ _ _ _ _ (Act.put _ (some 62) _) _
                have q3 : Below wr.heap.size wr w3 := q2.trans (j3.mono q2.size)
                refine sI_do rfl (wanted_g rfl rfl rfl ((ev_other _ _ (by decide)).trans ((ev_other _ _ (by decide)).trans ((ev_other _ _ (by decide)).trans ((ev_other _ _ (by decide)).trans ((ev_other _ _ (by decide)).trans ((ev_other _ _ (by decide)).trans (ev_same _ _ _ (by simp only [sz_put]; omega))))))))) (fun K hK => ?_)
                refine wp_call1 _ 9 (.tmp 56) #[22] rfl ((ev_other _ _ (by decide)).trans ((ev_other _ _ (by decide)).trans ((ev_other _ _ (by decide)).trans ((ev_other _ _ (by decide)).trans (ev_same _ _ _ (by simp only [sz_put]; omega)))))) (enter_sum _ _) (sum_any (some ⟨by_, 0, none⟩) len len f _ (unhide HG2) (by omega) ((unhide Y3).below q3)) ?_
                rintro e w4 ⟨rfl, j4⟩
                refine ⟨_, rfl, hK _ _ (fun _ => trivial) ?_⟩
                clear hK K
                have k4 : Below w.heap.size w w4 := k3.trans (j4.mono k3.size)
                show SeqI _ _ _ _ _ _ (Act.put _ (some 57) _) _
                have q4 : Below wr.heap.size wr w4 := q3.trans (j4.mono q3.size)
                refine sI_read (v := (.int .i64 ((moreN 0 g len ^^^ moreN 0 f len : Nat) : Int))) rfl (fun _ _ _ h => absurd h.1 (fun e => nomatch e)) (wanted_g rfl rfl rfl ((ev_other _ _ (by decide)).trans ((ev_other _ _ (by decide)).trans ((ev_other _ _ (by decide)).trans ((ev_other _ _ (by decide)).trans ((ev_other _ _ (by decide)).trans ((ev_other _ _ (by decide)).trans ((ev_other _ _ (by decide)).trans (ev_same _ _ _ (by simp only [sz_put]; omega)))))))))) trivial (fun wx _ => run_xorI (.tmp 55) (.tmp 57) rfl ((ev_other _ _ (by decide)).trans ((ev_other _ _ (by decide)).trans (ev_same _ _ _ (by simp only [sz_put]; omega)))) (ev_same _ _ _ (by simp only [sz_put]; omega)) (moreN_lt _ _ _) (moreN_lt _ _ _) wx) ?_
                show SeqI _ _ _ _ _ _ (Act.put _ (some 58) _) _
                refine sI_do rfl (wanted_g rfl rfl rfl ((ev_other _ _ (by decide)).trans ((ev_other _ _ (by decide)).trans ((ev_other _ _ (by decide)).trans ((ev_other _ _ (by decide)).trans ((ev_other _ _ (by decide)).trans ((ev_other _ _ (by decide)).trans ((ev_other _ _ (by decide)).trans ((ev_other _ _ (by decide)).trans (ev_same _ _ _ (by simp only [sz_put]; omega))))))))))) (fun K hK => ?_)
                refine wp_call1 _ 9 (.tmp 59) #[22] rfl ((ev_other _ _ (by decide)).trans ((ev_other _ _ (by decide)).trans ((ev_other _ _ (by decide)).trans ((ev_other _ _ (by decide)).trans ((ev_other _ _ (by decide)).trans (ev_same _ _ _ (by simp only [sz_put]; omega))))))) (enter_sum _ _) (sum_any (some ⟨bz, 0, none⟩) len len (fun j => g j ^^^ f j) _ (fun j => Nat.xor_lt_two_pow (n := 8) (unhide HG j) (unhide HG2 j)) (by omega) ((unhide Z3).below q4)) ?_
                rintro e w5 ⟨rfl, j5⟩
                refine ⟨_, rfl, hK _ _ (fun _ => trivial) ?_⟩
                clear hK K
                have k5 : Below w.heap.size w w5 := k4.trans (j5.mono k4.size)
                show SeqI _ _ _ _ _ _ (Act.put _ (some 60) _) _
                have q5 : Below wr.heap.size wr w5 := q4.trans (j5.mono q4.size)
                refine sI_do rfl (wanted_g rfl rfl rfl ((ev_other _ _ (by decide)).trans ((ev_other _ _ (by decide)).trans ((ev_other _ _ (by decide)).trans ((ev_other _ _ (by decide)).trans ((ev_other _ _ (by decide)).trans ((ev_other _ _ (by decide)).trans ((ev_other _ _ (by decide)).trans ((ev_other _ _ (by decide)).trans ((ev_other _ _ (by decide)).trans (ev_same _ _ _ (by simp only [sz_put]; omega)))))))))))) (fun K hK => ?_)
                refine wp_call1 _ 9 (.tmp 62) #[22] rfl ((ev_other _ _ (by decide)).trans ((ev_other _ _ (by decide)).trans ((ev_other _ _ (by decide)).trans (ev_same _ _ _ (by simp only [sz_put]; omega))))) (enter_sum _ _) (sum_any (some ⟨w2.heap.size, 0, none⟩) len len (fun _ => 0) _ (fun _ => by show 0 < 256; omega) (by omega) ((vz.rd.below j4).below j5)) ?_
                rintro e w6 ⟨rfl, j6⟩
                refine ⟨_, rfl, hK _ _ (fun _ => trivial) ?_⟩
                clear hK K
                have k6 : Below w.heap.size w w6 := k5.trans (j6.mono k5.size)
                show SeqI _ _ _ _ _ _ (Act.put _ (some 63) _) _
                refine sI_read (v := (.int .i64 ((moreN 0 (fun j => g j ^^^ f j) len ^^^ moreN 0 (fun _ => 0) len : Nat) : Int))) rfl (fun _ _ _ h => absurd h.1 (fun e => nomatch e)) (wanted_g rfl rfl rfl ((ev_other _ _ (by decide)).trans ((ev_other _ _ (by decide)).trans ((ev_other _ _ (by decide)).trans ((ev_other _ _ (by decide)).trans ((ev_other _ _ (by decide)).trans ((ev_other _ _ (by decide)).trans ((ev_other _ _ (by decide)).trans ((ev_other _ _ (by decide)).trans ((ev_other _ _ (by decide)).trans ((ev_other _ _ (by decide)).trans (ev_same _ _ _ (by simp only [sz_put]; omega))))))))))))) trivial (fun wx _ => run_xorI (.tmp 60) (.tmp 63) rfl ((ev_other _ _ (by decide)).trans (ev_same _ _ _ (by simp only [sz_put]; omega))) (ev_same _ _ _ (by simp only [sz_put]; omega)) (moreN_lt _ _ _) (moreN_lt _ _ _) wx) ?_
                show SeqI _ _ _ _ _ _ (Act.put _ (some 64) _) _
                refine sI_read (v := (.bool true)) rfl (fun _ _ _ h => absurd h.1 (fun e => nomatch e)) (wanted_g rfl rfl rfl ((ev_other _ _ (by decide)).trans ((ev_other _ _ (by decide)).trans ((ev_other _ _ (by decide)).trans ((ev_other _ _ (by decide)).trans ((ev_other _ _ (by decide)).trans ((ev_other _ _ (by decide)).trans ((ev_other _ _ (by decide)).trans ((ev_other _ _ (by decide)).trans ((ev_other _ _ (by decide)).trans ((ev_other _ _ (by decide)).trans ((ev_other _ _ (by decide)).trans (ev_same _ _ _ (by simp only [sz_put]; omega)))))))))))))) trivial (fun wx _ => run_eqlI (.tmp 58) (.tmp 64) rfl ((ev_other _ _ (by decide)).trans ((ev_other _ _ (by decide)).trans ((ev_other _ _ (by decide)).trans (ev_same _ _ _ (by simp only [sz_put]; omega))))) (by rw [more_lin (unhide HG) (unhide HG2)]; exact (ev_same _ _ _ (by simp only [sz_put]; omega))) wx) ?_
                show SeqI _ _ _ _ _ _ (Act.put _ (some 65) _) _
                refine sI_read (v := (.bool true)) rfl (fun _ _ _ h => absurd h.1 (fun e => nomatch e)) (wanted_rd rfl) trivial (fun wx _ => run_pickT (.tmp 53) (.tmp 65) _ rfl ((ev_other _ _ (by decide)).trans ((ev_other _ _ (by decide)).trans ((ev_other _ _ (by decide)).trans ((ev_other _ _ (by decide)).trans ((ev_other _ _ (by decide)).trans ((ev_other _ _ (by decide)).trans ((ev_other _ _ (by decide)).trans ((ev_other _ _ (by decide)).trans ((ev_other _ _ (by decide)).trans ((ev_other _ _ (by decide)).trans ((ev_other _ _ (by decide)).trans ((ev_other _ _ (by decide)).trans (ev_same _ _ _ (by simp only [sz_put]; omega)))))))))))))) (ev_same _ _ _ (by simp only [sz_put]; omega)) wx) ?_
                show SeqI _ _ _ _ _ _ (Act.put _ (some 66) _) _
                refine sI_read (v := (.bool true)) rfl (fun _ _ _ h => absurd h.1 (fun e => nomatch e)) (wanted_rd rfl) trivial (fun wx _ => run_assign (.tmp 66) rfl (ev_same _ _ _ (by simp only [sz_put]; omega)) wx) ?_
                show SeqI _ _ _ _ _ _ (Act.put _ (some 4) _) _
                refine sI_end ?_
                exact ⟨rfl, k6, by simp only [put_def], (ev_same _ _ _ (by simp only [sz_put]; omega))⟩
            · intro K hK
              refine wp_makeB _ (.tmp 61) (.tmp 61) rfl len (ev_same _ _ _ (by simp only [sz_put]; omega)) (ev_same _ _ _ (by simp only [sz_put]; omega)) (by omega) ?_
              intro w2 e2 vz j2
              refine hK _ _ (fun _ => trivial) ?_
              clear hK K e2
              have k2 : Below w.heap.size w w2 := k1.trans (j2.mono k1.size)
              show SeqI _ _ _ _ _ _ (Act.put _ (some 62) _) _
              have q2 : Below wr.heap.size wr w2 := q1.trans (j2.mono q1.size)
              refine sI_do rfl (wanted_g rfl rfl rfl ((ev_other _ _ (by decide)).trans ((ev_other _ _ (by decide)).trans ((ev_other _ _ (by decide)).trans ((ev_other _ _ (by decide)).trans ((ev_other _ _ (by decide)).trans (ev_same _ _ _ (by simp only [sz_put]; omega)))))))) (fun K hK => ?_)
              refine wp_call1 _ 9 (.tmp 54) #[22] rfl ((ev_other _ _ (by decide)).trans ((ev_other _ _ (by decide)).trans ((ev_other _ _ (by decide)).trans ((ev_other _ _ (by decide)).trans (ev_same _ _ _ (by simp only [sz_put]; omega)))))) (enter_sum _ _) (sum_any (some ⟨bx, 0, none⟩) len len g _ (unhide HG) (by omega) ((unhide X3).below q2)) ?_
              rintro e w3 ⟨rfl, j3⟩
              refine ⟨_, rfl, hK _ _ (fun _ => trivial) ?_⟩
              clear hK K
              have k3 : Below w.heap.size w w3 := k2.trans (j3.mono k2.size)
              show SeqI _ _ _ _ _ _ (Act.put _ (some 55) _) _
              have q3 : Below wr.heap.size wr w3 := q2.trans (j3.mono q2.size)
              refine sI_do rfl (wanted_g rfl rfl rfl ((ev_other _ _ (by decide)).trans ((ev_other _ _ (by decide)).trans ((ev_other _ _ (by decide)).trans ((ev_other _ _ (by decide)).trans ((ev_other _ _ (by decide)).trans ((ev_other _ _ (by decide)).trans (ev_same _ _ _ (by simp only [sz_put]; omega))))))))) (fun K hK => ?_)
              refine wp_call1 _ 9 (.tmp 56) #[22] rfl ((ev_other _ _ (by decide)).trans ((ev_other _ _ (by decide)).trans ((ev_other _ _ (by decide)).trans ((ev_other _ _ (by decide)).trans (ev_same _ _ _ (by simp only [sz_put]; omega)))))) (enter_sum _ _) (sum_any (some ⟨by_, 0, none⟩) len len f _ (unhide HG2) (by omega) ((unhide Y3).below q3)) ?_
              rintro e w4 ⟨rfl, j4⟩
              refine ⟨_, rfl, hK _ _ (fun _ => trivial) ?_⟩
              clear hK K
              have k4 : Below w.heap.size w w4 := k3.trans (j4.mono k3.size)
              show SeqI _ _ _ _ _ _ (Act.put _ (some 57) _) _
              have q4 : Below wr.heap.size wr w4 := q3.trans (j4.mono q3.size)
              refine sI_read (v := (.int .i64 ((moreN 0 g len ^^^ moreN 0 f len : Nat) : Int))) rfl (fun _ _ _ h => absurd h.1 (fun e => nomatch e)) (wanted_g rfl rfl rfl ((ev_other _ _ (by decide)).trans ((ev_other _ _ (by decide)).trans ((ev_other _ _ (by decide)).trans ((ev_other _ _ (by decide)).trans ((ev_other _ _ (by decide)).trans ((ev_other _ _ (by decide)).trans ((ev_other _ _ (by decide)).trans (ev_same _ _ _ (by simp only [sz_put]; omega)))))))))) trivial (fun wx _ => run_xorI (.tmp 55) (.tmp 57) rfl ((ev_other _ _ (by decide)).trans (ev_same _ _ _ (by simp only [sz_put]; omega))) (ev_same _ _ _ (by simp only [sz_put]; omega)) (moreN_lt _ _ _) (moreN_lt _ _ _) wx) ?_
              show SeqI _ _ _ _ _ _ (Act.put _ (some 58) _) _
              refine sI_do rfl (wanted_g rfl rfl rfl ((ev_other _ _ (by decide)).trans ((ev_other _ _ (by decide)).trans ((ev_other _ _ (by decide)).trans ((ev_other _ _ (by decide)).trans ((ev_other _ _ (by decide)).trans ((ev_other _ _ (by decide)).trans ((ev_other _ _ (by decide)).trans ((ev_other _ _ (by decide)).trans (ev_same _ _ _ (by simp only [sz_put]; omega))))))))))) (fun K hK => ?_)
              refine wp_call1 _ 9 (.tmp 59) #[22] rfl ((ev_other _ _ (by decide)).trans ((ev_other _ _ (by decide)).trans ((ev_other _ _ (by decide)).trans ((ev_other _ _ (by decide)).trans ((ev_other _ _ (by decide)).trans (ev_same _ _ _ (by simp only [sz_put]; omega))))))) (enter_sum _ _) (sum_any (some ⟨bz, 0, none⟩) len len (fun j => g j ^^^ f j) _ (fun j => Nat.xor_lt_two_pow (n := 8) (unhide HG j) (unhide HG2 j)) (by omega) ((unhide Z3).below q4)) ?_
              rintro e w5 ⟨rfl, j5⟩
              refine ⟨_, rfl, hK _ _ (fun _ => trivial) ?_⟩
              clear hK K
              have k5 : Below w.heap.size w w5 := k4.trans (j5.mono k4.size)
              show SeqI _ _ _ _ _ _ (Act.put _ (some 60) _) _
              have q5 : Below wr.heap.size wr w5 := q4.trans (j5.mono q4.size)
              refine sI_do rfl (wanted_g rfl rfl rfl ((ev_other _ _ (by decide)).trans ((ev_other _ _ (by decide)).trans ((ev_other _ _ (by decide)).trans ((ev_other _ _ (by decide)).trans ((ev_other _ _ (by decide)).trans ((ev_other _ _ (by decide)).trans ((ev_other _ _ (by decide)).trans ((ev_other _ _ (by decide)).trans ((ev_other _ _ (by decide)).trans (ev_same _ _ _ (by simp only [sz_put]; omega)))))))))))) (fun K hK => ?_)
              refine wp_call1 _ 9 (.tmp 62) #[22] rfl ((ev_other _ _ (by decide)).trans ((ev_other _ _ (by decide)).trans ((ev_other _ _ (by decide)).trans ((ev_other _ _ (by decide)).trans (ev_same _ _ _ (by simp only [sz_put]; omega)))))) (enter_sum _ _) (sum_any (some ⟨w1.heap.size, 0, none⟩) len len (fun _ => 0) _ (fun _ => by show 0 < 256; omega) (by omega) (((vz.rd.below j3).below j4).below j5)) ?_
              rintro e w6 ⟨rfl, j6⟩
              refine ⟨_, rfl, hK _ _ (fun _ => trivial) ?_⟩
              clear hK K
              have k6 : Below w.heap.size w w6 := k5.trans (j6.mono k5.size)
              show SeqI _ _ _ _ _ _ (Act.put _ (some 63) _) _
              refine sI_read (v := (.int .i64 ((moreN 0 (fun j => g j ^^^ f j) len ^^^ moreN 0 (fun _ => 0) len : Nat) : Int))) rfl (fun _ _ _ h => absurd h.1 (fun e => nomatch e)) (wanted_g rfl rfl rfl ((ev_other _ _ (by decide)).trans ((ev_other _ _ (by decide)).trans ((ev_other _ _ (by decide)).trans ((ev_other _ _ (by decide)).trans ((ev_other _ _ (by decide)).trans ((ev_other _ _ (by decide)).trans ((ev_other _ _ (by decide)).trans ((ev_other _ _ (by decide)).trans ((ev_other _ _ (by decide)).trans ((ev_other _ _ (by decide)).trans (ev_same _ _ _ (by simp only [sz_put]; omega))))))))))))) trivial (fun wx _ => run_xorI (.tmp 60) (.tmp 63) rfl ((ev_other _ _ (by decide)).trans (ev_same _ _ _ (by simp only [sz_put]; omega))) (ev_same _ _ _ (by simp only [sz_put]; omega)) (moreN_lt _ _ _) (moreN_lt _ _ _) wx) ?_
              show SeqI _ _ _ _ _ _ (Act.put _ (some 64) _) _
              refine sI_read (v := (.bool true)) rfl (fun _ _ _ h => absurd h.1 (fun e => nomatch e)) (wanted_g rfl rfl rfl ((ev_other _ _ (by decide)).trans ((ev_other _ _ (by decide)).trans ((ev_other _ _ (by decide)).trans ((ev_other _ _ (by decide)).trans ((ev_other _ _ (by decide)).trans ((ev_other _ _ (by decide)).trans ((ev_other _ _ (by decide)).trans ((ev_other _ _ (by decide)).trans ((ev_other _ _ (by decide)).trans ((ev_other _ _ (by decide)).trans ((ev_other _ _ (by decide)).trans (ev_same _ _ _ (by simp only [sz_put]; omega)))))))))))))) trivial (fun wx _ => run_eqlI (.tmp 58) (.tmp 64) rfl ((ev_other _ _ (by decide)).trans ((ev_other _ _ (by decide)).trans ((ev_other _ _ (by decide)).trans (ev_same _ _ _ (by simp only [sz_put]; omega))))) (by rw [more_lin (unhide HG) (unhide HG2)]; exact (ev_same _ _ _ (by simp only [sz_put]; omega))) wx) ?_
              show SeqI _ _ _ _ _ _ (Act.put _ (some 65) _) _
              refine sI_read (v := (.bool true)) rfl (fun _ _ _ h => absurd h.1 (fun e => nomatch e)) (wanted_rd rfl) trivial (fun wx _ => run_pickT (.tmp 53) (.tmp 65) _ rfl ((ev_other _ _ (by decide)).trans ((ev_other _ _ (by decide)).trans ((ev_other _ _ (by decide)).trans ((ev_other _ _ (by decide)).trans ((ev_other _ _ (by decide)).trans ((ev_other _ _ (by decide)).trans ((ev_other _ _ (by decide)).trans ((ev_other _ _ (by decide)).trans ((ev_other _ _ (by decide)).trans ((ev_other _ _ (by decide)).trans ((ev_other _ _ (by decide)).trans ((ev_other _ _ (by decide)).trans (ev_same _ _ _ (by simp only [sz_put]; omega)))))))))))))) (ev_same _ _ _ (by simp only [sz_put]; omega)) wx) ?_
              show SeqI _ _ _ _ _ _ (Act.put _ (some 66) _) _
              refine sI_read (v := (.bool true)) rfl (fun _ _ _ h => absurd h.1 (fun e => nomatch e)) (wanted_rd rfl) trivial (fun wx _ => run_assign (.tmp 66) rfl (ev_same _ _ _ (by simp only [sz_put]; omega)) wx) ?_
              show SeqI _ _ _ _ _ _ (Act.put _ (some 4) _) _
              refine sI_end ?_
              exact ⟨rfl, k6, by simp only [put_def], (ev_same _ _ _ (by simp only [sz_put]; omega))⟩
          case rest =>
            rintro a' w9 ⟨k9, hd, h4⟩
            obtain ⟨tm, df⟩ := a'
            have hd2 : df = [] := hd
            subst hd2
            have H4 := hide h4
            clear h4 hd
            go_wp2_with fail
            go_ret
            exact ⟨congrArg Ending.returned (unhide H4), k9⟩
  · have hlt2 : (len2 : Int) < (len : Int) := by omega
    go_enter Try.func8, Try.ntmps8
    go_wp2_with fail
    refine wp_leaves (fun a0 a' w' => ∃ bx by_ bz, bx ≠ by_ ∧ bx ≠ bz ∧ by_ ≠ bz ∧ w.heap.size ≤ bx ∧ w.heap.size ≤ by_ ∧ w.heap.size ≤ bz ∧ Vh 5 w' bx len2 len2 (bF (fun _ => 0)) ∧ Vh 5 w' by_ len2 len2 (bF (fun _ => 0)) ∧ Vh 5 w' bz len2 len2 (bF (fun _ => 0)) ∧ Below w.heap.size w w' ∧
        a' = (((((((((a0.put (some 6) (.slice (some ⟨bx, 0, none⟩) len2 len2)).put (some 7) (.slice (some ⟨by_, 0, none⟩) len2 len2)).put (some 8) (.slice (some ⟨bz, 0, none⟩) len2 len2)).put (some 15) (.int .i64 (len2 : Nat))).put (some 16) (.slice (some ⟨bx, 0, none⟩) len2 len2)).put (some 17) (.int .i64 (len2 : Nat))).put (some 18) (.slice (some ⟨by_, 0, none⟩) len2 len2)).put (some 19) (.int .i64 (len2 : Nat))).put (some 20) (.slice (some ⟨bz, 0, none⟩) len2 len2))) ?reg ?rest
    case reg =>
      intro A eA
      have h5 : A.eval (.tmp 5) = .int .i64 (len2 : Nat) := by rw [eA]; rfl
      have hs : 21 ≤ A.tmps.size := by rw [eA]; exact of_decide_eq_true rfl
      clear eA
      refine region_I (S := fun _ => True) (.rd 0 (.rd 2 (.rd 4 (.three 1 3 5 (.rd 6 (.two 3 5 (.rd 7 (.go 5 (.rd 8 .fin))) (.go 3 (.rd 7 (.rd 8 .fin))))) (.two 1 5 (.rd 6 (.rd 7 (.go 5 (.rd 8 .fin)))) (.go 1 (.rd 6 (.rd 7 (.rd 8 .fin))))) (.two 1 3 (.rd 6 (.go 3 (.rd 7 (.rd 8 .fin)))) (.go 1 (.rd 6 (.rd 7 (.rd 8 .fin))))))))) [] (by kernel_rfl) (by kernel_rfl) ?_
      refine sI_read (v := (.int .i64 (len2 : Nat))) rfl (fun _ _ _ h => absurd h.1 (fun e => nomatch e)) (wanted_rd rfl) trivial (fun wx _ => run_move (.tmp 5) rfl h5 wx) ?_
      show SeqI _ _ _ _ _ _ (Act.put _ (some 15) _) _
      refine sI_read (v := (.int .i64 (len2 : Nat))) rfl (fun _ _ _ h => absurd h.1 (fun e => nomatch e)) (wanted_rd rfl) trivial (fun wx _ => run_move (.tmp 5) rfl ((ev_other _ _ (by decide)).trans h5) wx) ?_
      show SeqI _ _ _ _ _ _ (Act.put _ (some 17) _) _
      refine sI_read (v := (.int .i64 (len2 : Nat))) rfl (fun _ _ _ h => absurd h.1 (fun e => nomatch e)) (wanted_rd rfl) trivial (fun wx _ => run_move (.tmp 5) rfl ((ev_other _ _ (by decide)).trans ((ev_other _ _ (by decide)).trans h5)) wx) ?_
      show SeqI _ _ _ _ _ _ (Act.put _ (some 19) _) _
      refine sI_three rfl rfl rfl (wanted_rd rfl) (wanted_rd rfl) (wanted_rd rfl) ?_ ?_ ?_
      · intro K hK
        refine wp_makeB _ (.tmp 15) (.tmp 15) rfl len2 ((ev_other _ _ (by decide)).trans ((ev_other _ _ (by decide)).trans (ev_same _ _ _ (by omega)))) ((ev_other _ _ (by decide)).trans ((ev_other _ _ (by decide)).trans (ev_same _ _ _ (by omega)))) (by omega) ?_
        intro w1 e1 h1 k1
        refine hK _ _ (fun _ => trivial) ?_
        clear hK K
        show SeqI _ _ _ _ _ _ (Act.put _ (some 16) _) _
        refine sI_read (v := (.slice (some ⟨w.drew.heap.size, 0, none⟩) len2 len2)) rfl (fun _ _ _ h => absurd h.1 (fun e => nomatch e)) (wanted_rd rfl) trivial (fun wx _ => run_assign (.tmp 16) rfl (ev_same _ _ _ (by simp only [sz_put]; omega)) wx) ?_
        show SeqI _ _ _ _ _ _ (Act.put _ (some 6) _) _
        refine sI_two rfl rfl (wanted_rd rfl) (wanted_rd rfl) ?_ ?_
        · intro K hK
          refine wp_makeB _ (.tmp 17) (.tmp 17) rfl len2 ((ev_other _ _ (by decide)).trans ((ev_other _ _ (by decide)).trans ((ev_other _ _ (by decide)).trans (ev_same _ _ _ (by simp only [sz_put]; omega))))) ((ev_other _ _ (by decide)).trans ((ev_other _ _ (by decide)).trans ((ev_other _ _ (by decide)).trans (ev_same _ _ _ (by simp only [sz_put]; omega))))) (by omega) ?_
          intro w2 e2 h2 k2
          refine hK _ _ (fun _ => trivial) ?_
          clear hK K
          show SeqI _ _ _ _ _ _ (Act.put _ (some 18) _) _
          refine sI_read (v := (.slice (some ⟨w1.heap.size, 0, none⟩) len2 len2)) rfl (fun _ _ _ h => absurd h.1 (fun e => nomatch e)) (wanted_rd rfl) trivial (fun wx _ => run_assign (.tmp 18) rfl (ev_same _ _ _ (by simp only [sz_put]; omega)) wx) ?_
          show SeqI _ _ _ _ _ _ (Act.put _ (some 7) _) _
          refine sI_do rfl (wanted_rd rfl) (fun K hK => ?_)
          refine wp_makeB _ (.tmp 19) (.tmp 19) rfl len2 ((ev_other _ _ (by decide)).trans ((ev_other _ _ (by decide)).trans ((ev_other _ _ (by decide)).trans ((ev_other _ _ (by decide)).trans (ev_same _ _ _ (by simp only [sz_put]; omega)))))) ((ev_other _ _ (by decide)).trans ((ev_other _ _ (by decide)).trans ((ev_other _ _ (by decide)).trans ((ev_other _ _ (by decide)).trans (ev_same _ _ _ (by simp only [sz_put]; omega)))))) (by omega) ?_
          intro w3 e3 h3 k3
          refine hK _ _ (fun _ => trivial) ?_
          clear hK K
          show SeqI _ _ _ _ _ _ (Act.put _ (some 20) _) _
          refine sI_read (v := (.slice (some ⟨w2.heap.size, 0, none⟩) len2 len2)) rfl (fun _ _ _ h => absurd h.1 (fun e => nomatch e)) (wanted_rd rfl) trivial (fun wx _ => run_assign (.tmp 20) rfl (ev_same _ _ _ (by simp only [sz_put]; omega)) wx) ?_
          show SeqI _ _ _ _ _ _ (Act.put _ (some 8) _) _
          refine sI_end ?_
          have z1 : w1.heap.size = w.heap.size + 1 := by rw [e1, al_size]; rfl
          have z2 : w2.heap.size = w.heap.size + 2 := by rw [e2, al_size, z1]
          have z0 : w.drew.heap.size = w.heap.size := rfl
          have b1 : Below w.heap.size w w1 := (below_drew (Below.refl _ _)).trans k1
          have b2 : Below w.heap.size w w2 := b1.trans (k2.mono (by omega))
          have b3 : Below w.heap.size w w3 := b2.trans (k3.mono (by omega))
          exact ⟨rfl, w.drew.heap.size, w1.heap.size, w2.heap.size, by omega, by omega, by omega, by omega, by omega, by omega, ((h1.below k2).below k3), (h2.below k3), h3, b3, by rw [put_swap _ 19 16 _ _ (by decide), put_swap _ 17 16 _ _ (by decide), put_swap _ 19 6 _ _ (by decide), put_swap _ 17 6 _ _ (by decide), put_swap _ 16 6 _ _ (by decide), put_swap _ 15 6 _ _ (by decide), put_swap _ 19 18 _ _ (by decide), put_swap _ 19 7 _ _ (by decide), put_swap _ 18 7 _ _ (by decide), put_swap _ 17 7 _ _ (by decide), put_swap _ 16 7 _ _ (by decide), put_swap _ 15 7 _ _ (by decide), put_swap _ 20 8 _ _ (by decide), put_swap _ 19 8 _ _ (by decide), put_swap _ 18 8 _ _ (by decide), put_swap _ 17 8 _ _ (by decide), put_swap _ 16 8 _ _ (by decide), put_swap _ 15 8 _ _ (by decide)]⟩
        · intro K hK
          refine wp_makeB _ (.tmp 19) (.tmp 19) rfl len2 ((ev_other _ _ (by decide)).trans ((ev_other _ _ (by decide)).trans (ev_same _ _ _ (by simp only [sz_put]; omega)))) ((ev_other _ _ (by decide)).trans ((ev_other _ _ (by decide)).trans (ev_same _ _ _ (by simp only [sz_put]; omega)))) (by omega) ?_
          intro w2 e2 h2 k2
          refine hK _ _ (fun _ => trivial) ?_
          clear hK K
          show SeqI _ _ _ _ _ _ (Act.put _ (some 20) _) _
          refine sI_do rfl (wanted_rd rfl) (fun K hK => ?_)
          refine wp_makeB _ (.tmp 17) (.tmp 17) rfl len2 ((ev_other _ _ (by decide)).trans ((ev_other _ _ (by decide)).trans ((ev_other _ _ (by decide)).trans ((ev_other _ _ (by decide)).trans (ev_same _ _ _ (by simp only [sz_put]; omega)))))) ((ev_other _ _ (by decide)).trans ((ev_other _ _ (by decide)).trans ((ev_other _ _ (by decide)).trans ((ev_other _ _ (by decide)).trans (ev_same _ _ _ (by simp only [sz_put]; omega)))))) (by omega) ?_
          intro w3 e3 h3 k3
          refine hK _ _ (fun _ => trivial) ?_
          clear hK K
          show SeqI _ _ _ _ _ _ (Act.put _ (some 18) _) _
          refine sI_read (v := (.slice (some ⟨w2.heap.size, 0, none⟩) len2 len2)) rfl (fun _ _ _ h => absurd h.1 (fun e => nomatch e)) (wanted_rd rfl) trivial (fun wx _ => run_assign (.tmp 18) rfl (ev_same _ _ _ (by simp only [sz_put]; omega)) wx) ?_
          show SeqI _ _ _ _ _ _ (Act.put _ (some 7) _) _
          refine sI_read (v := (.slice (some ⟨w1.heap.size, 0, none⟩) len2 len2)) rfl (fun _ _ _ h => absurd h.1 (fun e => nomatch e)) (wanted_rd rfl) trivial (fun wx _ => run_assign (.tmp 20) rfl ((ev_other _ _ (by decide)).trans ((ev_other _ _ (by decide)).trans (ev_same _ _ _ (by simp only [sz_put]; omega)))) wx) ?_
          show SeqI _ _ _ _ _ _ (Act.put _ (some 8) _) _
          refine sI_end ?_
          have z1 : w1.heap.size = w.heap.size + 1 := by rw [e1, al_size]; rfl
          have z2 : w2.heap.size = w.heap.size + 2 := by rw [e2, al_size, z1]
          have z0 : w.drew.heap.size = w.heap.size := rfl
          have b1 : Below w.heap.size w w1 := (below_drew (Below.refl _ _)).trans k1
          have b2 : Below w.heap.size w w2 := b1.trans (k2.mono (by omega))
          have b3 : Below w.heap.size w w3 := b2.trans (k3.mono (by omega))
          exact ⟨rfl, w.drew.heap.size, w2.heap.size, w1.heap.size, by omega, by omega, by omega, by omega, by omega, by omega, ((h1.below k2).below k3), h3, (h2.below k3), b3, by rw [put_swap _ 19 16 _ _ (by decide), put_swap _ 17 16 _ _ (by decide), put_swap _ 19 6 _ _ (by decide), put_swap _ 17 6 _ _ (by decide), put_swap _ 16 6 _ _ (by decide), put_swap _ 15 6 _ _ (by decide), put_swap _ 20 18 _ _ (by decide), put_swap _ 19 18 _ _ (by decide), put_swap _ 20 7 _ _ (by decide), put_swap _ 19 7 _ _ (by decide), put_swap _ 18 7 _ _ (by decide), put_swap _ 17 7 _ _ (by decide), put_swap _ 16 7 _ _ (by decide), put_swap _ 15 7 _ _ (by decide), put_swap _ 20 8 _ _ (by decide), put_swap _ 19 8 _ _ (by decide), put_swap _ 18 8 _ _ (by decide), put_swap _ 17 8 _ _ (by decide), put_swap _ 16 8 _ _ (by decide), put_swap _ 15 8 _ _ (by decide)]⟩
      · intro K hK
        refine wp_makeB _ (.tmp 17) (.tmp 17) rfl len2 ((ev_other _ _ (by decide)).trans (ev_same _ _ _ (by simp only [sz_put]; omega))) ((ev_other _ _ (by decide)).trans (ev_same _ _ _ (by simp only [sz_put]; omega))) (by omega) ?_
        intro w1 e1 h1 k1
        refine hK _ _ (fun _ => trivial) ?_
        clear hK K
        show SeqI _ _ _ _ _ _ (Act.put _ (some 18) _) _
        refine sI_two rfl rfl (wanted_rd rfl) (wanted_rd rfl) ?_ ?_
        · intro K hK
          refine wp_makeB _ (.tmp 15) (.tmp 15) rfl len2 ((ev_other _ _ (by decide)).trans ((ev_other _ _ (by decide)).trans ((ev_other _ _ (by decide)).trans (ev_same _ _ _ (by omega))))) ((ev_other _ _ (by decide)).trans ((ev_other _ _ (by decide)).trans ((ev_other _ _ (by decide)).trans (ev_same _ _ _ (by omega))))) (by omega) ?_
          intro w2 e2 h2 k2
          refine hK _ _ (fun _ => trivial) ?_
          clear hK K
          show SeqI _ _ _ _ _ _ (Act.put _ (some 16) _) _
          refine sI_read (v := (.slice (some ⟨w1.heap.size, 0, none⟩) len2 len2)) rfl (fun _ _ _ h => absurd h.1 (fun e => nomatch e)) (wanted_rd rfl) trivial (fun wx _ => run_assign (.tmp 16) rfl (ev_same _ _ _ (by simp only [sz_put]; omega)) wx) ?_
          show SeqI _ _ _ _ _ _ (Act.put _ (some 6) _) _
          refine sI_read (v := (.slice (some ⟨w.drew.heap.size, 0, none⟩) len2 len2)) rfl (fun _ _ _ h => absurd h.1 (fun e => nomatch e)) (wanted_rd rfl) trivial (fun wx _ => run_assign (.tmp 18) rfl ((ev_other _ _ (by decide)).trans ((ev_other _ _ (by decide)).trans (ev_same _ _ _ (by simp only [sz_put]; omega)))) wx) ?_
          show SeqI _ _ _ _ _ _ (Act.put _ (some 7) _) _
          refine sI_do rfl (wanted_rd rfl) (fun K hK => ?_)
          refine wp_makeB _ (.tmp 19) (.tmp 19) rfl len2 ((ev_other _ _ (by decide)).trans ((ev_other _ _ (by decide)).trans ((ev_other _ _ (by decide)).trans ((ev_other _ _ (by decide)).trans (ev_same _ _ _ (by simp only [sz_put]; omega)))))) ((ev_other _ _ (by decide)).trans ((ev_other _ _ (by decide)).trans ((ev_other _ _ (by decide)).trans ((ev_other _ _ (by decide)).trans (ev_same _ _ _ (by simp only [sz_put]; omega)))))) (by omega) ?_
          intro w3 e3 h3 k3
          refine hK _ _ (fun _ => trivial) ?_
          clear hK K
          show SeqI _ _ _ _ _ _ (Act.put _ (some 20) _) _
          refine sI_read (v := (.slice (some ⟨w2.heap.size, 0, none⟩) len2 len2)) rfl (fun _ _ _ h => absurd h.1 (fun e => nomatch e)) (wanted_rd rfl) trivial (fun wx _ => run_assign (.tmp 20) rfl (ev_same _ _ _ (by simp only [sz_put]; omega)) wx) ?_
          show SeqI _ _ _ _ _ _ (Act.put _ (some 8) _) _
          refine sI_end ?_
          have z1 : w1.heap.size = w.heap.size + 1 := by rw [e1, al_size]; rfl
          have z2 : w2.heap.size = w.heap.size + 2 := by rw [e2, al_size, z1]
          have z0 : w.drew.heap.size = w.heap.size := rfl
          have b1 : Below w.heap.size w w1 := (below_drew (Below.refl _ _)).trans k1
          have b2 : Below w.heap.size w w2 := b1.trans (k2.mono (by omega))
          have b3 : Below w.heap.size w w3 := b2.trans (k3.mono (by omega))
          exact ⟨rfl, w1.heap.size, w.drew.heap.size, w2.heap.size, by omega, by omega, by omega, by omega, by omega, by omega, (h2.below k3), ((h1.below k2).below k3), h3, b3, by rw [put_swap _ 19 18 _ _ (by decide), put_swap _ 19 16 _ _ (by decide), put_swap _ 18 16 _ _ (by decide), put_swap _ 17 16 _ _ (by decide), put_swap _ 19 6 _ _ (by decide), put_swap _ 18 6 _ _ (by decide), put_swap _ 17 6 _ _ (by decide), put_swap _ 16 6 _ _ (by decide), put_swap _ 15 6 _ _ (by decide), put_swap _ 19 7 _ _ (by decide), put_swap _ 18 7 _ _ (by decide), put_swap _ 17 7 _ _ (by decide), put_swap _ 16 7 _ _ (by decide), put_swap _ 15 7 _ _ (by decide), put_swap _ 20 8 _ _ (by decide), put_swap _ 19 8 _ _ (by decide), put_swap _ 18 8 _ _ (by decide), put_swap _ 17 8 _ _ (by decide), put_swap _ 16 8 _ _ (by decide), put_swap _ 15 8 _ _ (by decide)]⟩
        · intro K hK
          refine wp_makeB _ (.tmp 19) (.tmp 19) rfl len2 ((ev_other _ _ (by decide)).trans (ev_same _ _ _ (by simp only [sz_put]; omega))) ((ev_other _ _ (by decide)).trans (ev_same _ _ _ (by simp only [sz_put]; omega))) (by omega) ?_
          intro w2 e2 h2 k2
          refine hK _ _ (fun _ => trivial) ?_
          clear hK K
          show SeqI _ _ _ _ _ _ (Act.put _ (some 20) _) _
          refine sI_do rfl (wanted_rd rfl) (fun K hK => ?_)
          refine wp_makeB _ (.tmp 15) (.tmp 15) rfl len2 ((ev_other _ _ (by decide)).trans ((ev_other _ _ (by decide)).trans ((ev_other _ _ (by decide)).trans ((ev_other _ _ (by decide)).trans (ev_same _ _ _ (by omega)))))) ((ev_other _ _ (by decide)).trans ((ev_other _ _ (by decide)).trans ((ev_other _ _ (by decide)).trans ((ev_other _ _ (by decide)).trans (ev_same _ _ _ (by omega)))))) (by omega) ?_
          intro w3 e3 h3 k3
          refine hK _ _ (fun _ => trivial) ?_
          clear hK K
          show SeqI _ _ _ _ _ _ (Act.put _ (some 16) _) _
          refine sI_read (v := (.slice (some ⟨w2.heap.size, 0, none⟩) len2 len2)) rfl (fun _ _ _ h => absurd h.1 (fun e => nomatch e)) (wanted_rd rfl) trivial (fun wx _ => run_assign (.tmp 16) rfl (ev_same _ _ _ (by simp only [sz_put]; omega)) wx) ?_
          show SeqI _ _ _ _ _ _ (Act.put _ (some 6) _) _
          refine sI_read (v := (.slice (some ⟨w.drew.heap.size, 0, none⟩) len2 len2)) rfl (fun _ _ _ h => absurd h.1 (fun e => nomatch e)) (wanted_rd rfl) trivial (fun wx _ => run_assign (.tmp 18) rfl ((ev_other _ _ (by decide)).trans ((ev_other _ _ (by decide)).trans ((ev_other _ _ (by decide)).trans (ev_same _ _ _ (by simp only [sz_put]; omega))))) wx) ?_
          show SeqI _ _ _ _ _ _ (Act.put _ (some 7) _) _
          refine sI_read (v := (.slice (some ⟨w1.heap.size, 0, none⟩) len2 len2)) rfl (fun _ _ _ h => absurd h.1 (fun e => nomatch e)) (wanted_rd rfl) trivial (fun wx _ => run_assign (.tmp 20) rfl ((ev_other _ _ (by decide)).trans ((ev_other _ _ (by decide)).trans ((ev_other _ _ (by decide)).trans (ev_same _ _ _ (by simp only [sz_put]; omega))))) wx) ?_
          show SeqI _ _ _ _ _ _ (Act.put _ (some 8) _) _
          refine sI_end ?_
          have z1 : w1.heap.size = w.heap.size + 1 := by rw [e1, al_size]; rfl
          have z2 : w2.heap.size = w.heap.size + 2 := by rw [e2, al_size, z1]
          have z0 : w.drew.heap.size = w.heap.size := rfl
          have b1 : Below w.heap.size w w1 := (below_drew (Below.refl _ _)).trans k1
          have b2 : Below w.heap.size w w2 := b1.trans (k2.mono (by omega))
          have b3 : Below w.heap.size w w3 := b2.trans (k3.mono (by omega))
          exact ⟨rfl, w2.heap.size, w.drew.heap.size, w1.heap.size, by omega, by omega, by omega, by omega, by omega, by omega, h3, ((h1.below k2).below k3), (h2.below k3), b3, by rw [put_swap _ 19 18 _ _ (by decide), put_swap _ 20 16 _ _ (by decide), put_swap _ 19 16 _ _ (by decide), put_swap _ 18 16 _ _ (by decide), put_swap _ 17 16 _ _ (by decide), put_swap _ 20 6 _ _ (by decide), put_swap _ 19 6 _ _ (by decide), put_swap _ 18 6 _ _ (by decide), put_swap _ 17 6 _ _ (by decide), put_swap _ 16 6 _ _ (by decide), put_swap _ 15 6 _ _ (by decide), put_swap _ 20 7 _ _ (by decide), put_swap _ 19 7 _ _ (by decide), put_swap _ 18 7 _ _ (by decide), put_swap _ 17 7 _ _ (by decide), put_swap _ 16 7 _ _ (by decide), put_swap _ 15 7 _ _ (by decide), put_swap _ 20 8 _ _ (by decide), put_swap _ 19 8 _ _ (by decide), put_swap _ 18 8 _ _ (by decide), put_swap _ 17 8 _ _ (by decide), put_swap _ 16 8 _ _ (by decide), put_swap _ 15 8 _ _ (by decide)]⟩
      · intro K hK
        refine wp_makeB _ (.tmp 19) (.tmp 19) rfl len2 (ev_same _ _ _ (by simp only [sz_put]; omega)) (ev_same _ _ _ (by simp only [sz_put]; omega)) (by omega) ?_
        intro w1 e1 h1 k1
        refine hK _ _ (fun _ => trivial) ?_
        clear hK K
        show SeqI _ _ _ _ _ _ (Act.put _ (some 20) _) _
        refine sI_two rfl rfl (wanted_rd rfl) (wanted_rd rfl) ?_ ?_
        · intro K hK
          refine wp_makeB _ (.tmp 15) (.tmp 15) rfl len2 ((ev_other _ _ (by decide)).trans ((ev_other _ _ (by decide)).trans ((ev_other _ _ (by decide)).trans (ev_same _ _ _ (by omega))))) ((ev_other _ _ (by decide)).trans ((ev_other _ _ (by decide)).trans ((ev_other _ _ (by decide)).trans (ev_same _ _ _ (by omega))))) (by omega) ?_
          intro w2 e2 h2 k2
          refine hK _ _ (fun _ => trivial) ?_
          clear hK K
          show SeqI _ _ _ _ _ _ (Act.put _ (some 16) _) _
          refine sI_read (v := (.slice (some ⟨w1.heap.size, 0, none⟩) len2 len2)) rfl (fun _ _ _ h => absurd h.1 (fun e => nomatch e)) (wanted_rd rfl) trivial (fun wx _ => run_assign (.tmp 16) rfl (ev_same _ _ _ (by simp only [sz_put]; omega)) wx) ?_
          show SeqI _ _ _ _ _ _ (Act.put _ (some 6) _) _
          refine sI_do rfl (wanted_rd rfl) (fun K hK => ?_)
          refine wp_makeB _ (.tmp 17) (.tmp 17) rfl len2 ((ev_other _ _ (by decide)).trans ((ev_other _ _ (by decide)).trans ((ev_other _ _ (by decide)).trans ((ev_other _ _ (by decide)).trans (ev_same _ _ _ (by simp only [sz_put]; omega)))))) ((ev_other _ _ (by decide)).trans ((ev_other _ _ (by decide)).trans ((ev_other _ _ (by decide)).trans ((ev_other _ _ (by decide)).trans (ev_same _ _ _ (by simp only [sz_put]; omega)))))) (by omega) ?_
          intro w3 e3 h3 k3
          refine hK _ _ (fun _ => trivial) ?_
          clear hK K
          show SeqI _ _ _ _ _ _ (Act.put _ (some 18) _) _
          refine sI_read (v := (.slice (some ⟨w2.heap.size, 0, none⟩) len2 len2)) rfl (fun _ _ _ h => absurd h.1 (fun e => nomatch e)) (wanted_rd rfl) trivial (fun wx _ => run_assign (.tmp 18) rfl (ev_same _ _ _ (by simp only [sz_put]; omega)) wx) ?_
          show SeqI _ _ _ _ _ _ (Act.put _ (some 7) _) _
          refine sI_read (v := (.slice (some ⟨w.drew.heap.size, 0, none⟩) len2 len2)) rfl (fun _ _ _ h => absurd h.1 (fun e => nomatch e)) (wanted_rd rfl) trivial (fun wx _ => run_assign (.tmp 20) rfl ((ev_other _ _ (by decide)).trans ((ev_other _ _ (by decide)).trans ((ev_other _ _ (by decide)).trans ((ev_other _ _ (by decide)).trans (ev_same _ _ _ (by simp only [sz_put]; omega)))))) wx) ?_
          show SeqI _ _ _ _ _ _ (Act.put _ (some 8) _) _
          refine sI_end ?_
          have z1 : w1.heap.size = w.heap.size + 1 := by rw [e1, al_size]; rfl
          have z2 : w2.heap.size = w.heap.size + 2 := by rw [e2, al_size, z1]
          have z0 : w.drew.heap.size = w.heap.size := rfl
          have b1 : Below w.heap.size w w1 := (below_drew (Below.refl _ _)).trans k1
          have b2 : Below w.heap.size w w2 := b1.trans (k2.mono (by omega))
          have b3 : Below w.heap.size w w3 := b2.trans (k3.mono (by omega))
          exact ⟨rfl, w1.heap.size, w2.heap.size, w.drew.heap.size, by omega, by omega, by omega, by omega, by omega, by omega, (h2.below k3), h3, ((h1.below k2).below k3), b3, by rw [put_swap _ 20 16 _ _ (by decide), put_swap _ 19 16 _ _ (by decide), put_swap _ 17 16 _ _ (by decide), put_swap _ 20 6 _ _ (by decide), put_swap _ 19 6 _ _ (by decide), put_swap _ 17 6 _ _ (by decide), put_swap _ 16 6 _ _ (by decide), put_swap _ 15 6 _ _ (by decide), put_swap _ 20 18 _ _ (by decide), put_swap _ 19 18 _ _ (by decide), put_swap _ 20 7 _ _ (by decide), put_swap _ 19 7 _ _ (by decide), put_swap _ 18 7 _ _ (by decide), put_swap _ 17 7 _ _ (by decide), put_swap _ 16 7 _ _ (by decide), put_swap _ 15 7 _ _ (by decide), put_swap _ 20 8 _ _ (by decide), put_swap _ 19 8 _ _ (by decide), put_swap _ 18 8 _ _ (by decide), put_swap _ 17 8 _ _ (by decide), put_swap _ 16 8 _ _ (by decide), put_swap _ 15 8 _ _ (by decide)]⟩
        · intro K hK
          refine wp_makeB _ (.tmp 17) (.tmp 17) rfl len2 ((ev_other _ _ (by decide)).trans ((ev_other _ _ (by decide)).trans (ev_same _ _ _ (by simp only [sz_put]; omega)))) ((ev_other _ _ (by decide)).trans ((ev_other _ _ (by decide)).trans (ev_same _ _ _ (by simp only [sz_put]; omega)))) (by omega) ?_
          intro w2 e2 h2 k2
          refine hK _ _ (fun _ => trivial) ?_
          clear hK K
          show SeqI _ _ _ _ _ _ (Act.put _ (some 18) _) _
          refine sI_do rfl (wanted_rd rfl) (fun K hK => ?_)
          refine wp_makeB _ (.tmp 15) (.tmp 15) rfl len2 ((ev_other _ _ (by decide)).trans ((ev_other _ _ (by decide)).trans ((ev_other _ _ (by decide)).trans ((ev_other _ _ (by decide)).trans (ev_same _ _ _ (by omega)))))) ((ev_other _ _ (by decide)).trans ((ev_other _ _ (by decide)).trans ((ev_other _ _ (by decide)).trans ((ev_other _ _ (by decide)).trans (ev_same _ _ _ (by omega)))))) (by omega) ?_
          intro w3 e3 h3 k3
          refine hK _ _ (fun _ => trivial) ?_
          clear hK K
          show SeqI _ _ _ _ _ _ (Act.put _ (some 16) _) _
          refine sI_read (v := (.slice (some ⟨w2.heap.size, 0, none⟩) len2 len2)) rfl (fun _ _ _ h => absurd h.1 (fun e => nomatch e)) (wanted_rd rfl) trivial (fun wx _ => run_assign (.tmp 16) rfl (ev_same _ _ _ (by simp only [sz_put]; omega)) wx) ?_
          show SeqI _ _ _ _ _ _ (Act.put _ (some 6) _) _
          refine sI_read (v := (.slice (some ⟨w1.heap.size, 0, none⟩) len2 len2)) rfl (fun _ _ _ h => absurd h.1 (fun e => nomatch e)) (wanted_rd rfl) trivial (fun wx _ => run_assign (.tmp 18) rfl ((ev_other _ _ (by decide)).trans ((ev_other _ _ (by decide)).trans (ev_same _ _ _ (by simp only [sz_put]; omega)))) wx) ?_
          show SeqI _ _ _ _ _ _ (Act.put _ (some 7) _) _
          refine sI_read (v := (.slice (some ⟨w.drew.heap.size, 0, none⟩) len2 len2)) rfl (fun _ _ _ h => absurd h.1 (fun e => nomatch e)) (wanted_rd rfl) trivial (fun wx _ => run_assign (.tmp 20) rfl ((ev_other _ _ (by decide)).trans ((ev_other _ _ (by decide)).trans ((ev_other _ _ (by decide)).trans ((ev_other _ _ (by decide)).trans (ev_same _ _ _ (by simp only [sz_put]; omega)))))) wx) ?_
          show SeqI _ _ _ _ _ _ (Act.put _ (some 8) _) _
          refine sI_end ?_
          have z1 : w1.heap.size = w.heap.size + 1 := by rw [e1, al_size]; rfl
          have z2 : w2.heap.size = w.heap.size + 2 := by rw [e2, al_size, z1]
          have z0 : w.drew.heap.size = w.heap.size := rfl
          have b1 : Below w.heap.size w w1 := (below_drew (Below.refl _ _)).trans k1
          have b2 : Below w.heap.size w w2 := b1.trans (k2.mono (by omega))
          have b3 : Below w.heap.size w w3 := b2.trans (k3.mono (by omega))
          exact ⟨rfl, w2.heap.size, w1.heap.size, w.drew.heap.size, by omega, by omega, by omega, by omega, by omega, by omega, h3, (h2.below k3), ((h1.below k2).below k3), b3, by rw [put_swap _ 20 18 _ _ (by decide), put_swap _ 19 18 _ _ (by decide), put_swap _ 20 16 _ _ (by decide), put_swap _ 19 16 _ _ (by decide), put_swap _ 18 16 _ _ (by decide), put_swap _ 17 16 _ _ (by decide), put_swap _ 20 6 _ _ (by decide), put_swap _ 19 6 _ _ (by decide), put_swap _ 18 6 _ _ (by decide), put_swap _ 17 6 _ _ (by decide), put_swap _ 16 6 _ _ (by decide), put_swap _ 15 6 _ _ (by decide), put_swap _ 20 7 _ _ (by decide), put_swap _ 19 7 _ _ (by decide), put_swap _ 18 7 _ _ (by decide), put_swap _ 17 7 _ _ (by decide), put_swap _ 16 7 _ _ (by decide), put_swap _ 15 7 _ _ (by decide), put_swap _ 20 8 _ _ (by decide), put_swap _ 19 8 _ _ (by decide), put_swap _ 18 8 _ _ (by decide), put_swap _ 17 8 _ _ (by decide), put_swap _ 16 8 _ _ (by decide), put_swap _ 15 8 _ _ (by decide)]⟩
    case rest =>
      rintro a' w2 ⟨bx, by_, bz, d1, d2, d3, s1, s2, s3, vx, vy, vz, k2, rfl⟩
      have VX := hide vx; have VY := hide vy; have VZ := hide vz; have K2 := hide k2
      clear vx vy vz k2
      go_wp2_with fail
      go_loopw [9] (fun is wr => ∃ i : Nat, is = .int .i64 i ∧ i ≤ len2 ∧ Vh 5 wr bx len2 len2 (bF (flF g i)) ∧ Vh 5 wr by_ len2 len2 (bF (flF f i)) ∧ Vh 5 wr bz len2 len2 (bF (flF (fun j => g j ^^^ f j) i)) ∧ Below w.heap.size w wr) (fun is _ => len2 - (intOf is).toNat)
      case atStart => exact ⟨0, rfl, Nat.zero_le _, unhide VX, unhide VY, unhide VZ, unhide K2⟩
      case round =>
        obtain ⟨i, rfl, hi, vx, vy, vz, k3⟩ := hrel
        have VX2 := hide vx; have VY2 := hide vy; have VZ2 := hide vz; have K3 := hide k3
        clear VX VY VZ K2 vx vy vz k3
        by_cases hin : i < len2
        · obtain ⟨ba, oa, ea, ca⟩ := unhide HR |>.rd (by omega)
          obtain ⟨bb, ob, eb, cb⟩ := unhide HR2 |>.rd (by omega)
          have la : ba < w.heap.size := World.block_lt_of_cell? w ⟨ba, oa + 0, none⟩ (ca 0 (by omega))
          have lb : bb < w.heap.size := World.block_lt_of_cell? w ⟨bb, ob + 0, none⟩ (cb 0 (by omega))
          have sa := at_below (ca i (by omega)) (unhide K3)
          have sb := at_below (cb i (by omega)) (unhide K3)
          have SC := hide (show Cl8 ba (oa + i) bb (ob + i) (g i) (f i) _ from ⟨sa, sb⟩)
          have EA := hide ea; have EB := hide eb
          clear ca cb sa sb ea eb
          go_wp2_with fail
          rename World => wr
          refine wp_leaves (fun a0 a' w' => w' = (((wr.drew.setCell ⟨bx, 0 + i, none⟩ (bV (g i))).setCell ⟨by_, 0 + i, none⟩ (bV (f i))).setCell ⟨bz, 0 + i, none⟩ (bV (g i ^^^ f i))) ∧ a' = ((((((((((((((((((((((((((a0.put (some 26) (.slice (some ⟨bx, 0, none⟩) len2 len2)).put (some 27) (.int .i64 (i : Nat))).put (some 28) (.slice (some ⟨by_, 0, none⟩) len2 len2)).put (some 29) (.int .i64 (i : Nat))).put (some 30) (.slice (some ⟨bz, 0, none⟩) len2 len2)).put (some 31) (.int .i64 (i : Nat))).put (some 32) (.slice (some ⟨ba, oa, none⟩) len cap)).put (some 33) (.int .i64 (i : Nat))).put (some 34) (.pointer (some ⟨ba, oa + i, none⟩))).put (some 35) (bV (g i))).put (some 36) (.slice (some ⟨bb, ob, none⟩) len2 cap2)).put (some 37) (.int .i64 (i : Nat))).put (some 38) (.pointer (some ⟨bb, ob + i, none⟩))).put (some 39) (bV (f i))).put (some 40) (.slice (some ⟨ba, oa, none⟩) len cap)).put (some 41) (.int .i64 (i : Nat))).put (some 42) (.pointer (some ⟨ba, oa + i, none⟩))).put (some 43) (bV (g i))).put (some 44) (.slice (some ⟨bb, ob, none⟩) len2 cap2)).put (some 45) (.int .i64 (i : Nat))).put (some 46) (.pointer (some ⟨bb, ob + i, none⟩))).put (some 47) (bV (f i))).put (some 48) (bV (g i ^^^ f i))).put (some 49) (.pointer (some ⟨bx, 0 + i, none⟩))).put (some 50) (.pointer (some ⟨by_, 0 + i, none⟩))).put (some 51) (.pointer (some ⟨bz, 0 + i, none⟩)))) ?reg ?rest
          case reg =>
            intro A eA
            have b0 : A.eval (.tmp 0) = (.slice (some ⟨ba, oa, none⟩) len cap) := by rw [eA, ← unhide EA]; rfl
            have b1 : A.eval (.tmp 1) = (.slice (some ⟨bb, ob, none⟩) len2 cap2) := by rw [eA, ← unhide EB]; rfl
            have b6 : A.eval (.tmp 6) = (.slice (some ⟨bx, 0, none⟩) len2 len2) := by rw [eA]; rfl
            have b7 : A.eval (.tmp 7) = (.slice (some ⟨by_, 0, none⟩) len2 len2) := by rw [eA]; rfl
            have b8 : A.eval (.tmp 8) = (.slice (some ⟨bz, 0, none⟩) len2 len2) := by rw [eA]; rfl
            have b9 : A.eval (.tmp 9) = (.int .i64 (i : Nat)) := by rw [eA]; rfl
            have hs : 67 ≤ A.tmps.size := by rw [eA]; exact of_decide_eq_true rfl
            clear eA
            have hS : Cl8 ba (oa + i) bb (ob + i) (g i) (f i) wr.drew := unhide SC
            refine region_I (S := Cl8 ba (oa + i) bb (ob + i) (g i) (f i)) (.rd 0 (.rd 1 (.rd 2 (.rd 3 (.rd 4 (.rd 5 (.rd 6 (.rd 7 (.rd 8 (.rd 9 (.rd 10 (.rd 11 (.rd 12 (.rd 13 (.rd 14 (.rd 15 (.rd 16 (.rd 17 (.rd 18 (.rd 19 (.rd 20 (.rd 21 (.rd 22 (.rd 23 (.go 24 (.rd 25 (.go 26 (.rd 27 (.go 28 .fin))))))))))))))))))))))))))))) [] (by kernel_rfl) (by kernel_rfl) ?_
            refine sI_read (v := (.slice (some ⟨bx, 0, none⟩) len2 len2)) rfl (fun _ _ _ h => absurd h.1 (fun e => nomatch e)) (wanted_rd rfl) hS (fun wx _ => run_move (.tmp 6) rfl b6 wx) ?_
            show SeqI _ _ _ _ _ _ (Act.put _ (some 26) _) _
            refine sI_read (v := (.int .i64 (i : Nat))) rfl (fun _ _ _ h => absurd h.1 (fun e => nomatch e)) (wanted_rd rfl) hS (fun wx _ => run_move (.tmp 9) rfl ((ev_other _ _ (by decide)).trans b9) wx) ?_
            show SeqI _ _ _ _ _ _ (Act.put _ (some 27) _) _
            refine sI_read (v := (.slice (some ⟨by_, 0, none⟩) len2 len2)) rfl (fun _ _ _ h => absurd h.1 (fun e => nomatch e)) (wanted_rd rfl) hS (fun wx _ => run_move (.tmp 7) rfl ((ev_other _ _ (by decide)).trans ((ev_other _ _ (by decide)).trans b7)) wx) ?_
            show SeqI _ _ _ _ _ _ (Act.put _ (some 28) _) _
            refine sI_read (v := (.int .i64 (i : Nat))) rfl (fun _ _ _ h => absurd h.1 (fun e => nomatch e)) (wanted_rd rfl) hS (fun wx _ => run_move (.tmp 9) rfl ((ev_other _ _ (by decide)).trans ((ev_other _ _ (by decide)).trans ((ev_other _ _ (by decide)).trans b9))) wx) ?_
            show SeqI _ _ _ _ _ _ (Act.put _ (some 29) _) _
            refine sI_read (v := (.slice (some ⟨bz, 0, none⟩) len2 len2)) rfl (fun _ _ _ h => absurd h.1 (fun e => nomatch e)) (wanted_rd rfl) hS (fun wx _ => run_move (.tmp 8) rfl ((ev_other _ _ (by decide)).trans ((ev_other _ _ (by decide)).trans ((ev_other _ _ (by decide)).trans ((ev_other _ _ (by decide)).trans b8)))) wx) ?_
            show SeqI _ _ _ _ _ _ (Act.put _ (some 30) _) _
            refine sI_read (v := (.int .i64 (i : Nat))) rfl (fun _ _ _ h => absurd h.1 (fun e => nomatch e)) (wanted_rd rfl) hS (fun wx _ => run_move (.tmp 9) rfl ((ev_other _ _ (by decide)).trans ((ev_other _ _ (by decide)).trans ((ev_other _ _ (by decide)).trans ((ev_other _ _ (by decide)).trans ((ev_other _ _ (by decide)).trans b9))))) wx) ?_
            show SeqI _ _ _ _ _ _ (Act.put _ (some 31) _) _
            refine sI_read (v := (.slice (some ⟨ba, oa, none⟩) len cap)) rfl (fun _ _ _ h => absurd h.1 (fun e => nomatch e)) (wanted_rd rfl) hS (fun wx _ => run_move (.tmp 0) rfl ((ev_other _ _ (by decide)).trans ((ev_other _ _ (by decide)).trans ((ev_other _ _ (by decide)).trans ((ev_other _ _ (by decide)).trans ((ev_other _ _ (by decide)).trans ((ev_other _ _ (by decide)).trans b0)))))) wx) ?_
            show SeqI _ _ _ _ _ _ (Act.put _ (some 32) _) _
            refine sI_read (v := (.int .i64 (i : Nat))) rfl (fun _ _ _ h => absurd h.1 (fun e => nomatch e)) (wanted_rd rfl) hS (fun wx _ => run_move (.tmp 9) rfl ((ev_other _ _ (by decide)).trans ((ev_other _ _ (by decide)).trans ((ev_other _ _ (by decide)).trans ((ev_other _ _ (by decide)).trans ((ev_other _ _ (by decide)).trans ((ev_other _ _ (by decide)).trans ((ev_other _ _ (by decide)).trans b9))))))) wx) ?_
            show SeqI _ _ _ _ _ _ (Act.put _ (some 33) _) _
            refine sI_read (v := (.pointer (some ⟨ba, oa + i, none⟩))) rfl (fun _ _ _ h => absurd h.1 (fun e => nomatch e)) (wanted_rd rfl) hS (fun wx _ => run_indexB (.tmp 32) (.tmp 33) rfl ((ev_other _ _ (by decide)).trans (ev_same _ _ _ (by simp only [sz_put]; omega))) (ev_same _ _ _ (by simp only [sz_put]; omega)) (by omega) wx) ?_
            show SeqI _ _ _ _ _ _ (Act.put _ (some 34) _) _
            refine sI_read (v := (bV (g i))) rfl (fun _ _ _ h => absurd h.1 (fun e => nomatch e)) (wanted_rd rfl) hS (fun wx hx => run_loadB (.tmp 34) rfl (ev_same _ _ _ (by simp only [sz_put]; omega)) hx.1) ?_
            show SeqI _ _ _ _ _ _ (Act.put _ (some 35) _) _
            refine sI_read (v := (.slice (some ⟨bb, ob, none⟩) len2 cap2)) rfl (fun _ _ _ h => absurd h.1 (fun e => nomatch e)) (wanted_rd rfl) hS (fun wx _ => run_move (.tmp 1) rfl ((ev_other _ _ (by decide)).trans ((ev_other _ _ (by decide)).trans ((ev_other _ _ (by decide)).trans ((ev_other _ _ (by decide)).trans ((ev_other _ _ (by decide)).trans ((ev_other _ _ (by decide)).trans ((ev_other _ _ (by decide)).trans ((ev_other _ _ (by decide)).trans ((ev_other _ _ (by decide)).trans ((ev_other _ _ (by decide)).trans b1)))))))))) wx) ?_
            show SeqI _ _ _ _ _ _ (Act.put _ (some 36) _) _
            refine sI_read (v := (.int .i64 (i : Nat))) rfl (fun _ _ _ h => absurd h.1 (fun e => nomatch e)) (wanted_rd rfl) hS (fun wx _ => run_move (.tmp 9) rfl ((ev_other _ _ (by decide)).trans ((ev_other _ _ (by decide)).trans ((ev_other _ _ (by decide)).trans ((ev_other _ _ (by decide)).trans ((ev_other _ _ (by decide)).trans ((ev_other _ _ (by decide)).trans ((ev_other _ _ (by decide)).trans ((ev_other _ _ (by decide)).trans ((ev_other _ _ (by decide)).trans ((ev_other _ _ (by decide)).trans ((ev_other _ _ (by decide)).trans b9))))))))))) wx) ?_
            show SeqI _ _ _ _ _ _ (Act.put _ (some 37) _) _
            refine sI_read (v := (.pointer (some ⟨bb, ob + i, none⟩))) rfl (fun _ _ _ h => absurd h.1 (fun e => nomatch e)) (wanted_rd rfl) hS (fun wx _ => run_indexB (.tmp 36) (.tmp 37) rfl ((ev_other _ _ (by decide)).trans (ev_same _ _ _ (by simp only [sz_put]; omega))) (ev_same _ _ _ (by simp only [sz_put]; omega)) (by omega) wx) ?_
            show SeqI _ _ _ _ _ _ (Act.put _ (some 38) _) _
            refine sI_read (v := (bV (f i))) rfl (fun _ _ _ h => absurd h.1 (fun e => nomatch e)) (wanted_rd rfl) hS (fun wx hx => run_loadB (.tmp 38) rfl (ev_same _ _ _ (by simp only [sz_put]; omega)) hx.2) ?_
            show SeqI _ _ _ _ _ _ (Act.put _ (some 39) _) _
            refine sI_read (v := (.slice (some ⟨ba, oa, none⟩) len cap)) rfl (fun _ _ _ h => absurd h.1 (fun e => nomatch e)) (wanted_rd rfl) hS (fun wx _ => run_move (.tmp 0) rfl ((ev_other _ _ (by decide)).trans ((ev_other _ _ (by decide)).trans ((ev_other _ _ (by decide)).trans ((ev_other _ _ (by decide)).trans ((ev_other _ _ (by decide)).trans ((ev_other _ _ (by decide)).trans ((ev_other _ _ (by decide)).trans ((ev_other _ _ (by decide)).trans ((ev_other _ _ (by decide)).trans ((ev_other _ _ (by decide)).trans ((ev_other _ _ (by decide)).trans ((ev_other _ _ (by decide)).trans ((ev_other _ _ (by decide)).trans ((ev_other _ _ (by decide)).trans b0)))))))))))))) wx) ?_
            show SeqI _ _ _ _ _ _ (Act.put _ (some 40) _) _
            refine sI_read (v := (.int .i64 (i : Nat))) rfl (fun _ _ _ h => absurd h.1 (fun e => nomatch e)) (wanted_rd rfl) hS (fun wx _ => run_move (.tmp 9) rfl ((ev_other _ _ (by decide)).trans ((ev_other _ _ (by decide)).trans ((ev_other _ _ (by decide)).trans ((ev_other _ _ (by decide)).trans ((ev_other _ _ (by decide)).trans ((ev_other _ _ (by decide)).trans ((ev_other _ _ (by decide)).trans ((ev_other _ _ (by decide)).trans ((ev_other _ _ (by decide)).trans ((ev_other _ _ (by decide)).trans ((ev_other _ _ (by decide)).trans ((ev_other _ _ (by decide)).trans ((ev_other _ _ (by decide)).trans ((ev_other _ _ (by decide)).trans ((ev_other _ _ (by decide)).trans b9))))))))))))))) wx) ?_
            show SeqI _ _ _ _ _ _ (Act.put _ (some 41) _) _
            refine sI_read (v := (.pointer (some ⟨ba, oa + i, none⟩))) rfl (fun _ _ _ h => absurd h.1 (fun e => nomatch e)) (wanted_rd rfl) hS (fun wx _ => run_indexB (.tmp 40) (.tmp 41) rfl ((ev_other _ _ (by decide)).trans (ev_same _ _ _ (by simp only [sz_put]; omega))) (ev_same _ _ _ (by simp only [sz_put]; omega)) (by omega) wx) ?_
            show SeqI _ _ _ _ _ _ (Act.put _ (some 42) _) _
            refine sI_read (v := (bV (g i))) rfl (fun _ _ _ h => absurd h.1 (fun e => nomatch e)) (wanted_rd rfl) hS (fun wx hx => run_loadB (.tmp 42) rfl (ev_same _ _ _ (by simp only [sz_put]; omega)) hx.1) ?_
            show SeqI _ _ _ _ _ _ (Act.put _ (some 43) _) _
            refine sI_read (v := (.slice (some ⟨bb, ob, none⟩) len2 cap2)) rfl (fun _ _ _ h => absurd h.1 (fun e => nomatch e)) (wanted_rd rfl) hS (fun wx _ => run_move (.tmp 1) rfl ((ev_other _ _ (by decide)).trans ((ev_other _ _ (by decide)).trans ((ev_other _ _ (by decide)).trans ((ev_other _ _ (by decide)).trans ((ev_other _ _ (by decide)).trans ((ev_other _ _ (by decide)).trans ((ev_other _ _ (by decide)).trans ((ev_other _ _ (by decide)).trans ((ev_other _ _ (by decide)).trans ((ev_other _ _ (by decide)).trans ((ev_other _ _ (by decide)).trans ((ev_other _ _ (by decide)).trans ((ev_other _ _ (by decide)).trans ((ev_other _ _ (by decide)).trans ((ev_other _ _ (by decide)).trans ((ev_other _ _ (by decide)).trans ((ev_other _ _ (by decide)).trans ((ev_other _ _ (by decide)).trans b1)))))))))))))))))) wx) ?_
            show SeqI _ _ _ _ _ _ (Act.put _ (some 44) _) _
            refine sI_read (v := (.int .i64 (i : Nat))) rfl (fun _ _ _ h => absurd h.1 (fun e => nomatch e)) (wanted_rd rfl) hS (fun wx _ => run_move (.tmp 9) rfl ((ev_other _ _ (by decide)).trans ((ev_other _ _ (by decide)).trans ((ev_other _ _ (by decide)).trans ((ev_other _ _ (by decide)).trans ((ev_other _ _ (by decide)).trans ((ev_other _ _ (by decide)).trans ((ev_other _ _ (by decide)).trans ((ev_other _ _ (by decide)).trans ((ev_other _ _ (by decide)).trans ((ev_other _ _ (by decide)).trans ((ev_other _ _ (by decide)).trans ((ev_other _ _ (by decide)).trans ((ev_other _ _ (by decide)).trans ((ev_other _ _ (by decide)).trans ((ev_other _ _ (by decide)).trans ((ev_other _ _ (by decide)).trans ((ev_other _ _ (by decide)).trans ((ev_other _ _ (by decide)).trans ((ev_other _ _ (by decide)).trans b9))))))))))))))))))) wx) ?_
            show SeqI _ _ _ _ _ _ (Act.put _ (some 45) _) _
            refine sI_read (v := (.pointer (some ⟨bb, ob + i, none⟩))) rfl (fun _ _ _ h => absurd h.1 (fun e => nomatch e)) (wanted_rd rfl) hS (fun wx _ => run_indexB (.tmp 44) (.tmp 45) rfl ((ev_other _ _ (by decide)).trans (ev_same _ _ _ (by simp only [sz_put]; omega))) (ev_same _ _ _ (by simp only [sz_put]; omega)) (by omega) wx) ?_
            show SeqI _ _ _ _ _ _ (Act.put _ (some 46) _) _
            refine sI_read (v := (bV (f i))) rfl (fun _ _ _ h => absurd h.1 (fun e => nomatch e)) (wanted_rd rfl) hS (fun wx hx => run_loadB (.tmp 46) rfl (ev_same _ _ _ (by simp only [sz_put]; omega)) hx.2) ?_
            show SeqI _ _ _ _ _ _ (Act.put _ (some 47) _) _
            refine sI_read (v := (bV (g i ^^^ f i))) rfl (fun _ _ _ h => absurd h.1 (fun e => nomatch e)) (wanted_rd rfl) hS (fun wx _ => run_xorB (.tmp 43) (.tmp 47) rfl ((ev_other _ _ (by decide)).trans ((ev_other _ _ (by decide)).trans ((ev_other _ _ (by decide)).trans ((ev_other _ _ (by decide)).trans (ev_same _ _ _ (by simp only [sz_put]; omega)))))) (ev_same _ _ _ (by simp only [sz_put]; omega)) (unhide HG i) (unhide HG2 i) wx) ?_
            show SeqI _ _ _ _ _ _ (Act.put _ (some 48) _) _
            refine sI_read (v := (.pointer (some ⟨bx, 0 + i, none⟩))) rfl (fun _ _ _ h => absurd h.1 (fun e => nomatch e)) (wanted_rd rfl) hS (fun wx _ => run_indexB (.tmp 26) (.tmp 27) rfl ((ev_other _ _ (by decide)).trans ((ev_other _ _ (by decide)).trans ((ev_other _ _ (by decide)).trans ((ev_other _ _ (by decide)).trans ((ev_other _ _ (by decide)).trans ((ev_other _ _ (by decide)).trans ((ev_other _ _ (by decide)).trans ((ev_other _ _ (by decide)).trans ((ev_other _ _ (by decide)).trans ((ev_other _ _ (by decide)).trans ((ev_other _ _ (by decide)).trans ((ev_other _ _ (by decide)).trans ((ev_other _ _ (by decide)).trans ((ev_other _ _ (by decide)).trans ((ev_other _ _ (by decide)).trans ((ev_other _ _ (by decide)).trans ((ev_other _ _ (by decide)).trans ((ev_other _ _ (by decide)).trans ((ev_other _ _ (by decide)).trans ((ev_other _ _ (by decide)).trans ((ev_other _ _ (by decide)).trans ((ev_other _ _ (by decide)).trans (ev_same _ _ _ (by omega)))))))))))))))))))))))) ((ev_other _ _ (by decide)).trans ((ev_other _ _ (by decide)).trans ((ev_other _ _ (by decide)).trans ((ev_other _ _ (by decide)).trans ((ev_other _ _ (by decide)).trans ((ev_other _ _ (by decide)).trans ((ev_other _ _ (by decide)).trans ((ev_other _ _ (by decide)).trans ((ev_other _ _ (by decide)).trans ((ev_other _ _ (by decide)).trans ((ev_other _ _ (by decide)).trans ((ev_other _ _ (by decide)).trans ((ev_other _ _ (by decide)).trans ((ev_other _ _ (by decide)).trans ((ev_other _ _ (by decide)).trans ((ev_other _ _ (by decide)).trans ((ev_other _ _ (by decide)).trans ((ev_other _ _ (by decide)).trans ((ev_other _ _ (by decide)).trans ((ev_other _ _ (by decide)).trans ((ev_other _ _ (by decide)).trans (ev_same _ _ _ (by simp only [sz_put]; omega))))))))))))))))))))))) (by omega) wx) ?_
            show SeqI _ _ _ _ _ _ (Act.put _ (some 49) _) _
            refine sI_do rfl (wanted_rd rfl) (fun K hK => ?_)
            have c0 : (wr.drew : World).cell? ⟨bx, 0 + i, none⟩ = some (bF (flF g i) i) := (show Vh 5 wr.drew bx len2 len2 (bF (flF g i)) from ((unhide VX2).same (w' := wr.drew) rfl)).cellz hin
            have f0 : (wr.drew : World).frozen? ⟨bx, 0 + i, none⟩ = false := (show Vh 5 wr.drew bx len2 len2 _ from ((unhide VX2).same (w' := wr.drew) rfl)).free _
            have hS1 : Cl8 ba (oa + i) bb (ob + i) (g i) (f i) ((wr.drew).setCell ⟨bx, 0 + i, none⟩ (bV (g i))) := hS.set bx (0 + i) (bV (g i)) (by omega) (by omega)
            refine wp_storeB _ (.tmp 49) (.tmp 35) rfl (ev_same _ _ _ (by simp only [sz_put]; omega)) ((ev_other _ _ (by decide)).trans ((ev_other _ _ (by decide)).trans ((ev_other _ _ (by decide)).trans ((ev_other _ _ (by decide)).trans ((ev_other _ _ (by decide)).trans ((ev_other _ _ (by decide)).trans ((ev_other _ _ (by decide)).trans ((ev_other _ _ (by decide)).trans ((ev_other _ _ (by decide)).trans ((ev_other _ _ (by decide)).trans ((ev_other _ _ (by decide)).trans ((ev_other _ _ (by decide)).trans ((ev_other _ _ (by decide)).trans ((ev_other _ _ (by decide)).trans (ev_same _ _ _ (by simp only [sz_put]; omega)))))))))))))))) c0 f0 rfl ?_
            refine hK _ _ (fun _ => hS1) ?_
            clear hK K
            refine sI_read (v := (.pointer (some ⟨by_, 0 + i, none⟩))) rfl (fun _ _ _ h => absurd h.1 (fun e => nomatch e)) (wanted_rd rfl) hS1 (fun wx _ => run_indexB (.tmp 28) (.tmp 29) rfl ((ev_other _ _ (by decide)).trans ((ev_other _ _ (by decide)).trans ((ev_other _ _ (by decide)).trans ((ev_other _ _ (by decide)).trans ((ev_other _ _ (by decide)).trans ((ev_other _ _ (by decide)).trans ((ev_other _ _ (by decide)).trans ((ev_other _ _ (by decide)).trans ((ev_other _ _ (by decide)).trans ((ev_other _ _ (by decide)).trans ((ev_other _ _ (by decide)).trans ((ev_other _ _ (by decide)).trans ((ev_other _ _ (by decide)).trans ((ev_other _ _ (by decide)).trans ((ev_other _ _ (by decide)).trans ((ev_other _ _ (by decide)).trans ((ev_other _ _ (by decide)).trans ((ev_other _ _ (by decide)).trans ((ev_other _ _ (by decide)).trans ((ev_other _ _ (by decide)).trans ((ev_other _ _ (by decide)).trans (ev_same _ _ _ (by simp only [sz_put]; omega))))))))))))))))))))))) ((ev_other _ _ (by decide)).trans ((ev_other _ _ (by decide)).trans ((ev_other _ _ (by decide)).trans ((ev_other _ _ (by decide)).trans ((ev_other _ _ (by decide)).trans ((ev_other _ _ (by decide)).trans ((ev_other _ _ (by decide)).trans ((ev_other _ _ (by decide)).trans ((ev_other _ _ (by decide)).trans ((ev_other _ _ (by decide)).trans ((ev_other _ _ (by decide)).trans ((ev_other _ _ (by decide)).trans ((ev_other _ _ (by decide)).trans ((ev_other _ _ (by decide)).trans ((ev_other _ _ (by decide)).trans ((ev_other _ _ (by decide)).trans ((ev_other _ _ (by decide)).trans ((ev_other _ _ (by decide)).trans ((ev_other _ _ (by decide)).trans ((ev_other _ _ (by decide)).trans (ev_same _ _ _ (by simp only [sz_put]; omega)))))))))))))))))))))) (by omega) wx) ?_
            show SeqI _ _ _ _ _ _ (Act.put _ (some 50) _) _
            refine sI_do rfl (wanted_rd rfl) (fun K hK => ?_)
            have c1 : (((wr.drew).setCell ⟨bx, 0 + i, none⟩ (bV (g i))) : World).cell? ⟨by_, 0 + i, none⟩ = some (bF (flF f i) i) := (show Vh 5 ((wr.drew).setCell ⟨bx, 0 + i, none⟩ (bV (g i))) by_ len2 len2 (bF (flF f i)) from (((unhide VY2).same (w' := wr.drew) rfl).kept (kept_set _ bx _ _) (by omega))).cellz hin
            have f1 : (((wr.drew).setCell ⟨bx, 0 + i, none⟩ (bV (g i))) : World).frozen? ⟨by_, 0 + i, none⟩ = false := (show Vh 5 ((wr.drew).setCell ⟨bx, 0 + i, none⟩ (bV (g i))) by_ len2 len2 _ from (((unhide VY2).same (w' := wr.drew) rfl).kept (kept_set _ bx _ _) (by omega))).free _
            have hS2 : Cl8 ba (oa + i) bb (ob + i) (g i) (f i) ((((wr.drew).setCell ⟨bx, 0 + i, none⟩ (bV (g i)))).setCell ⟨by_, 0 + i, none⟩ (bV (f i))) := hS1.set by_ (0 + i) (bV (f i)) (by omega) (by omega)
            refine wp_storeB _ (.tmp 50) (.tmp 39) rfl (ev_same _ _ _ (by simp only [sz_put]; omega)) ((ev_other _ _ (by decide)).trans ((ev_other _ _ (by decide)).trans ((ev_other _ _ (by decide)).trans ((ev_other _ _ (by decide)).trans ((ev_other _ _ (by decide)).trans ((ev_other _ _ (by decide)).trans ((ev_other _ _ (by decide)).trans ((ev_other _ _ (by decide)).trans ((ev_other _ _ (by decide)).trans ((ev_other _ _ (by decide)).trans ((ev_other _ _ (by decide)).trans (ev_same _ _ _ (by simp only [sz_put]; omega))))))))))))) c1 f1 rfl ?_
            refine hK _ _ (fun _ => hS2) ?_
            clear hK K
            refine sI_read (v := (.pointer (some ⟨bz, 0 + i, none⟩))) rfl (fun _ _ _ h => absurd h.1 (fun e => nomatch e)) (wanted_rd rfl) hS2 (fun wx _ => run_indexB (.tmp 30) (.tmp 31) rfl ((ev_other _ _ (by decide)).trans ((ev_other _ _ (by decide)).trans ((ev_other _ _ (by decide)).trans ((ev_other _ _ (by decide)).trans ((ev_other _ _ (by decide)).trans ((ev_other _ _ (by decide)).trans ((ev_other _ _ (by decide)).trans ((ev_other _ _ (by decide)).trans ((ev_other _ _ (by decide)).trans ((ev_other _ _ (by decide)).trans ((ev_other _ _ (by decide)).trans ((ev_other _ _ (by decide)).trans ((ev_other _ _ (by decide)).trans ((ev_other _ _ (by decide)).trans ((ev_other _ _ (by decide)).trans ((ev_other _ _ (by decide)).trans ((ev_other _ _ (by decide)).trans ((ev_other _ _ (by decide)).trans ((ev_other _ _ (by decide)).trans ((ev_other _ _ (by decide)).trans (ev_same _ _ _ (by simp only [sz_put]; omega)))))))))))))))))))))) ((ev_other _ _ (by decide)).trans ((ev_other _ _ (by decide)).trans ((ev_other _ _ (by decide)).trans ((ev_other _ _ (by decide)).trans ((ev_other _ _ (by decide)).trans ((ev_other _ _ (by decide)).trans ((ev_other _ _ (by decide)).trans ((ev_other _ _ (by decide)).trans ((ev_other _ _ (by decide)).trans ((ev_other _ _ (by decide)).trans ((ev_other _ _ (by decide)).trans ((ev_other _ _ (by decide)).trans ((ev_other _ _ (by decide)).trans ((ev_other _ _ (by decide)).trans ((ev_other _ _ (by decide)).trans ((ev_other _ _ (by decide)).trans ((ev_other _ _ (by decide)).trans ((ev_other _ _ (by decide)).trans ((ev_other _ _ (by decide)).trans (ev_same _ _ _ (by simp only [sz_put]; omega))))))))))))))))))))) (by omega) wx) ?_
            show SeqI _ _ _ _ _ _ (Act.put _ (some 51) _) _
            refine sI_do rfl (wanted_rd rfl) (fun K hK => ?_)
            have c2 : (((((wr.drew).setCell ⟨bx, 0 + i, none⟩ (bV (g i)))).setCell ⟨by_, 0 + i, none⟩ (bV (f i))) : World).cell? ⟨bz, 0 + i, none⟩ = some (bF (flF (fun j => g j ^^^ f j) i) i) := (show Vh 5 ((((wr.drew).setCell ⟨bx, 0 + i, none⟩ (bV (g i)))).setCell ⟨by_, 0 + i, none⟩ (bV (f i))) bz len2 len2 (bF (flF (fun j => g j ^^^ f j) i)) from ((((unhide VZ2).same (w' := wr.drew) rfl).kept (kept_set _ bx _ _) (by omega)).kept (kept_set _ by_ _ _) (by omega))).cellz hin
            have f2 : (((((wr.drew).setCell ⟨bx, 0 + i, none⟩ (bV (g i)))).setCell ⟨by_, 0 + i, none⟩ (bV (f i))) : World).frozen? ⟨bz, 0 + i, none⟩ = false := (show Vh 5 ((((wr.drew).setCell ⟨bx, 0 + i, none⟩ (bV (g i)))).setCell ⟨by_, 0 + i, none⟩ (bV (f i))) bz len2 len2 _ from ((((unhide VZ2).same (w' := wr.drew) rfl).kept (kept_set _ bx _ _) (by omega)).kept (kept_set _ by_ _ _) (by omega))).free _
            have hS3 : Cl8 ba (oa + i) bb (ob + i) (g i) (f i) ((((((wr.drew).setCell ⟨bx, 0 + i, none⟩ (bV (g i)))).setCell ⟨by_, 0 + i, none⟩ (bV (f i)))).setCell ⟨bz, 0 + i, none⟩ (bV (g i ^^^ f i))) := hS2.set bz (0 + i) (bV (g i ^^^ f i)) (by omega) (by omega)
            refine wp_storeB _ (.tmp 51) (.tmp 48) rfl (ev_same _ _ _ (by simp only [sz_put]; omega)) ((ev_other _ _ (by decide)).trans ((ev_other _ _ (by decide)).trans ((ev_other _ _ (by decide)).trans (ev_same _ _ _ (by simp only [sz_put]; omega))))) c2 f2 rfl ?_
            refine hK _ _ (fun _ => hS3) ?_
            clear hK K
            refine sI_end ?_
            exact ⟨rfl, rfl, rfl⟩
          case rest =>
            rintro a' w3 ⟨rfl, rfl⟩
            have vx : Vh 5 (((wr.drew.setCell ⟨bx, 0 + i, none⟩ (bV (g i))).setCell ⟨by_, 0 + i, none⟩ (bV (f i))).setCell ⟨bz, 0 + i, none⟩ (bV (g i ^^^ f i))) bx len2 len2 (bF (flF g (i + 1))) := by rw [← flF_step g i]; exact ((((unhide VX2).same (w' := wr.drew) rfl).setz i (bV (g i))).kept (kept_set _ by_ (0 + i) (bV (f i))) (by omega)).kept (kept_set _ bz (0 + i) (bV (g i ^^^ f i))) (by omega)
            have vy : Vh 5 (((wr.drew.setCell ⟨bx, 0 + i, none⟩ (bV (g i))).setCell ⟨by_, 0 + i, none⟩ (bV (f i))).setCell ⟨bz, 0 + i, none⟩ (bV (g i ^^^ f i))) by_ len2 len2 (bF (flF f (i + 1))) := by rw [← flF_step f i]; exact ((((unhide VY2).same (w' := wr.drew) rfl).kept (kept_set _ bx (0 + i) (bV (g i))) (by omega)).setz i (bV (f i))).kept (kept_set _ bz (0 + i) (bV (g i ^^^ f i))) (by omega)
            have vz : Vh 5 (((wr.drew.setCell ⟨bx, 0 + i, none⟩ (bV (g i))).setCell ⟨by_, 0 + i, none⟩ (bV (f i))).setCell ⟨bz, 0 + i, none⟩ (bV (g i ^^^ f i))) bz len2 len2 (bF (flF (fun j => g j ^^^ f j) (i + 1))) := by rw [← flF_step (fun j => g j ^^^ f j) i]; exact ((((unhide VZ2).same (w' := wr.drew) rfl).kept (kept_set _ bx (0 + i) (bV (g i))) (by omega)).kept (kept_set _ by_ (0 + i) (bV (f i))) (by omega)).setz i (bV (g i ^^^ f i))
            have k4 := below_of_kept (below_of_kept (below_of_kept (below_drew (unhide K3)) (kept_set _ bx (0 + i) (bV (g i))) s1 (unhide K3).size) (kept_set _ by_ (0 + i) (bV (f i))) s2 (by simp [World.setCell]; exact (unhide K3).size)) (kept_set _ bz (0 + i) (bV (g i ^^^ f i))) s3 (by simp [World.setCell]; exact (unhide K3).size)
            obtain ⟨w5, e5⟩ : ∃ w5, w5 = (((wr.drew.setCell ⟨bx, 0 + i, none⟩ (bV (g i))).setCell ⟨by_, 0 + i, none⟩ (bV (f i))).setCell ⟨bz, 0 + i, none⟩ (bV (g i ^^^ f i))) := ⟨_, rfl⟩
            rw [← e5] at vx vy vz k4 ⊢
            have VX5 := hide vx; have VY5 := hide vy; have VZ5 := hide vz; have K5 := hide k4
            clear vx vy vz k4 e5 VX2 VY2 VZ2 K3 SC
            go_wp2_with fail
            go_roundw
            case rel => exact ⟨i + 1, by go_num, by omega, unhide VX5, unhide VY5, unhide VZ5, unhide K5⟩
            case measure => simp [intOf] <;> omega
        · have e6 : i = len2 := by omega
          rw [e6] at VX2 VY2 VZ2 ⊢
          have X3 := hide (flF_end (unhide VX2)).rd; have Y3 := hide (flF_end (unhide VY2)).rd; have Z3 := hide (flF_end (unhide VZ2)).rd
          clear VX2 VY2 VZ2 hi hin e6
          go_wp2_with fail
          rename World => wr
          refine wp_leaves (fun a0 a' w' => Below w.heap.size w w' ∧ a'.defers = a0.defers ∧ a'.eval (.tmp 4) = .bool true) ?reg ?rest
          case reg =>
            intro A eA
            have b5 : A.eval (.tmp 5) = .int .i64 (len2 : Nat) := by rw [eA]; rfl
            have b6 : A.eval (.tmp 6) = (.slice (some ⟨bx, 0, none⟩) len2 len2) := by rw [eA]; rfl
            have b7 : A.eval (.tmp 7) = (.slice (some ⟨by_, 0, none⟩) len2 len2) := by rw [eA]; rfl
            have b8 : A.eval (.tmp 8) = (.slice (some ⟨bz, 0, none⟩) len2 len2) := by rw [eA]; rfl
            have hs : 67 ≤ A.tmps.size := by rw [eA]; exact of_decide_eq_true rfl
            clear eA
            refine region_I (S := fun _ => True) (.go 0 (.rd 1 (.rd 2 (.rd 4 (.rd 7 (.rd 9 (.two 3 10 (.two 5 10 (.rd 6 (.two 8 10 (.go 10 (.go 11 (.rd 12 (.rd 13 (.rd 14 (.rd 15 .fin)))))) (.go 8 (.go 11 (.rd 12 (.rd 13 (.rd 14 (.rd 15 .fin)))))))) (.go 5 (.rd 6 (.go 8 (.go 11 (.rd 12 (.rd 13 (.rd 14 (.rd 15 .fin))))))))) (.go 3 (.go 5 (.rd 6 (.go 8 (.go 11 (.rd 12 (.rd 13 (.rd 14 (.rd 15 .fin)))))))))))))))) [] (by kernel_rfl) (by kernel_rfl) ?_
            refine sI_do rfl (wanted_rd rfl) (fun K hK => ?_)
            refine wp_call0 _ 18 #[] rfl (enter_sums _) (sums_any _) ?_
            rintro e w1 ⟨rfl, j1⟩
            refine ⟨_, rfl, hK _ _ (fun _ => trivial) ?_⟩
            clear hK K
            have k1 : Below w.heap.size w w1 := (below_drew (unhide K3)).trans (j1.mono (unhide K3).size)
            show SeqI _ _ _ _ _ _ (Act.put _ (some 52) _) _
            refine sI_read (v := (.bool true)) rfl (fun _ _ _ h => absurd h.1 (fun e => nomatch e)) (wanted_rd rfl) trivial (fun wx _ => run_move (.tmp 52) rfl (ev_same _ _ _ (by omega)) wx) ?_
            show SeqI _ _ _ _ _ _ (Act.put _ (some 53) _) _
            refine sI_read (v := (.slice (some ⟨bx, 0, none⟩) len2 len2)) rfl (fun _ _ _ h => absurd h.1 (fun e => nomatch e)) (wanted_g rfl rfl rfl (ev_same _ _ _ (by simp only [sz_put]; omega))) trivial (fun wx _ => run_move (.tmp 6) rfl ((ev_other _ _ (by decide)).trans ((ev_other _ _ (by decide)).trans b6)) wx) ?_
            show SeqI _ _ _ _ _ _ (Act.put _ (some 54) _) _
            refine sI_read (v := (.slice (some ⟨by_, 0, none⟩) len2 len2)) rfl (fun _ _ _ h => absurd h.1 (fun e => nomatch e)) (wanted_g rfl rfl rfl ((ev_other _ _ (by decide)).trans (ev_same _ _ _ (by simp only [sz_put]; omega)))) trivial (fun wx _ => run_move (.tmp 7) rfl ((ev_other _ _ (by decide)).trans ((ev_other _ _ (by decide)).trans ((ev_other _ _ (by decide)).trans b7))) wx) ?_
            show SeqI _ _ _ _ _ _ (Act.put _ (some 56) _) _
            refine sI_read (v := (.slice (some ⟨bz, 0, none⟩) len2 len2)) rfl (fun _ _ _ h => absurd h.1 (fun e => nomatch e)) (wanted_g rfl rfl rfl ((ev_other _ _ (by decide)).trans ((ev_other _ _ (by decide)).trans (ev_same _ _ _ (by simp only [sz_put]; omega))))) trivial (fun wx _ => run_move (.tmp 8) rfl ((ev_other _ _ (by decide)).trans ((ev_other _ _ (by decide)).trans ((ev_other _ _ (by decide)).trans ((ev_other _ _ (by decide)).trans b8)))) wx) ?_
            show SeqI _ _ _ _ _ _ (Act.put _ (some 59) _) _
            refine sI_read (v := (.int .i64 (len2 : Nat))) rfl (fun _ _ _ h => absurd h.1 (fun e => nomatch e)) (wanted_g rfl rfl rfl ((ev_other _ _ (by decide)).trans ((ev_other _ _ (by decide)).trans ((ev_other _ _ (by decide)).trans (ev_same _ _ _ (by simp only [sz_put]; omega)))))) trivial (fun wx _ => run_move (.tmp 5) rfl ((ev_other _ _ (by decide)).trans ((ev_other _ _ (by decide)).trans ((ev_other _ _ (by decide)).trans ((ev_other _ _ (by decide)).trans ((ev_other _ _ (by decide)).trans b5))))) wx) ?_
            show SeqI _ _ _ _ _ _ (Act.put _ (some 61) _) _
            have q1 : Below wr.heap.size wr w1 := (below_drew (Below.refl _ _)).trans j1
            refine sI_two rfl rfl (wanted_g rfl rfl rfl ((ev_other _ _ (by decide)).trans ((ev_other _ _ (by decide)).trans ((ev_other _ _ (by decide)).trans ((ev_other _ _ (by decide)).trans (ev_same _ _ _ (by simp only [sz_put]; omega))))))) (wanted_g rfl rfl rfl ((ev_other _ _ (by decide)).trans ((ev_other _ _ (by decide)).trans ((ev_other _ _ (by decide)).trans ((ev_other _ _ (by decide)).trans (ev_same _ _ _ (by simp only [sz_put]; omega))))))) ?_ ?_
            · intro K hK
              refine wp_call1 _ 9 (.tmp 54) #[22] rfl ((ev_other _ _ (by decide)).trans ((ev_other _ _ (by decide)).trans ((ev_other _ _ (by decide)).trans (ev_same _ _ _ (by simp only [sz_put]; omega))))) (enter_sum _ _) (sum_any (some ⟨bx, 0, none⟩) len2 len2 g _ (unhide HG) (by omega) ((unhide X3).below q1)) ?_
              rintro e w2 ⟨rfl, j2⟩
              refine ⟨_, rfl, hK _ _ (fun _ => trivial) ?_⟩
              clear hK K
              have k2 : Below w.heap.size w w2 := k1.trans (j2.mono k1.size)
              show SeqI _ _ _ _ _ _ (Act.put _ (some 55) _) _
              have q2 : Below wr.heap.size wr w2 := q1.trans (j2.mono q1.size)
              refine sI_two rfl rfl (wanted_g rfl rfl rfl ((ev_other _ _ (by decide)).trans ((ev_other _ _ (by decide)).trans ((ev_other _ _ (by decide)).trans ((ev_other _ _ (by decide)).trans ((ev_other _ _ (by decide)).trans (ev_same _ _ _ (by simp only [sz_put]; omega)))))))) (wanted_g rfl rfl rfl ((ev_other _ _ (by decide)).trans ((ev_other _ _ (by decide)).trans ((ev_other _ _ (by decide)).trans ((ev_other _ _ (by decide)).trans ((ev_other _ _ (by decide)).trans (ev_same _ _ _ (by simp only [sz_put]; omega)))))))) ?_ ?_
              · intro K hK
                refine wp_call1 _ 9 (.tmp 56) #[22] rfl ((ev_other _ _ (by decide)).trans ((ev_other _ _ (by decide)).trans ((ev_other _ _ (by decide)).trans (ev_same _ _ _ (by simp only [sz_put]; omega))))) (enter_sum _ _) (sum_any (some ⟨by_, 0, none⟩) len2 len2 f _ (unhide HG2) (by omega) ((unhide Y3).below q2)) ?_
                rintro e w3 ⟨rfl, j3⟩
                refine ⟨_, rfl, hK _ _ (fun _ => trivial) ?_⟩
                clear hK K
                have k3 : Below w.heap.size w w3 := k2.trans (j3.mono k2.size)
                show SeqI _ _ _ _ _ _ (Act.put _ (some 57) _) _
                have q3 : Below wr.heap.size wr w3 := q2.trans (j3.mono q2.size)
                refine sI_read (v := (.int .i64 ((moreN 0 g len2 ^^^ moreN 0 f len2 : Nat) : Int))) rfl (fun _ _ _ h => absurd h.1 (fun e => nomatch e)) (wanted_g rfl rfl rfl ((ev_other _ _ (by decide)).trans ((ev_other _ _ (by decide)).trans ((ev_other _ _ (by decide)).trans ((ev_other _ _ (by decide)).trans ((ev_other _ _ (by decide)).trans ((ev_other _ _ (by decide)).trans (ev_same _ _ _ (by simp only [sz_put]; omega))))))))) trivial (fun wx _ => run_xorI (.tmp 55) (.tmp 57) rfl ((ev_other _ _ (by decide)).trans (ev_same _ _ _ (by simp only [sz_put]; omega))) (ev_same _ _ _ (by simp only [sz_put]; omega)) (moreN_lt _ _ _) (moreN_lt _ _ _) wx) ?_
                show SeqI _ _ _ _ _ _ (Act.put _ (some 58) _) _
                refine sI_two rfl rfl (wanted_g rfl rfl rfl ((ev_other _ _ (by decide)).trans ((ev_other _ _ (by decide)).trans ((ev_other _ _ (by decide)).trans ((ev_other _ _ (by decide)).trans ((ev_other _ _ (by decide)).trans ((ev_other _ _ (by decide)).trans ((ev_other _ _ (by decide)).trans (ev_same _ _ _ (by simp only [sz_put]; omega)))))))))) (wanted_g rfl rfl rfl ((ev_other _ _ (by decide)).trans ((ev_other _ _ (by decide)).trans ((ev_other _ _ (by decide)).trans ((ev_other _ _ (by decide)).trans ((ev_other _ _ (by decide)).trans ((ev_other _ _ (by decide)).trans ((ev_other _ _ (by decide)).trans (ev_same _ _ _ (by simp only [sz_put]; omega)))))))))) ?_ ?_
                · intro K hK
                  refine wp_call1 _ 9 (.tmp 59) #[22] rfl ((ev_other _ _ (by decide)).trans ((ev_other _ _ (by decide)).trans ((ev_other _ _ (by decide)).trans ((ev_other _ _ (by decide)).trans (ev_same _ _ _ (by simp only [sz_put]; omega)))))) (enter_sum _ _) (sum_any (some ⟨bz, 0, none⟩) len2 len2 (fun j => g j ^^^ f j) _ (fun j => Nat.xor_lt_two_pow (n := 8) (unhide HG j) (unhide HG2 j)) (by omega) ((unhide Z3).below q3)) ?_
                  rintro e w4 ⟨rfl, j4⟩
                  refine ⟨_, rfl, hK _ _ (fun _ => trivial) ?_⟩
                  clear hK K
                  have k4 : Below w.heap.size w w4 := k3.trans (j4.mono k3.size)
                  show SeqI _ _ _ _ _ _ (Act.put _ (some 60) _) _
                  have q4 : Below wr.heap.size wr w4 := q3.trans (j4.mono q3.size)
                  refine sI_do rfl (wanted_g rfl rfl rfl ((ev_other _ _ (by decide)).trans ((ev_other _ _ (by decide)).trans ((ev_other _ _ (by decide)).trans ((ev_other _ _ (by decide)).trans ((ev_other _ _ (by decide)).trans ((ev_other _ _ (by decide)).trans ((ev_other _ _ (by decide)).trans ((ev_other _ _ (by decide)).trans (ev_same _ _ _ (by simp only [sz_put]; omega))))))))))) (fun K hK => ?_)
                  refine wp_makeB _ (.tmp 61) (.tmp 61) rfl len2 ((ev_other _ _ (by decide)).trans ((ev_other _ _ (by decide)).trans ((ev_other _ _ (by decide)).trans ((ev_other _ _ (by decide)).trans (ev_same _ _ _ (by simp only [sz_put]; omega)))))) ((ev_other _ _ (by decide)).trans ((ev_other _ _ (by decide)).trans ((ev_other _ _ (by decide)).trans ((ev_other _ _ (by decide)).trans (ev_same _ _ _ (by simp only [sz_put]; omega)))))) (by omega) ?_
                  intro w5 e5 vz j5
                  refine hK _ _ (fun _ => trivial) ?_
                  clear hK K e5
                  have k5 : Below w.heap.size w w5 := k4.trans (j5.mono k4.size)
                  show SeqI _ _ _ _ _ _ (Act.put _ (some 62) _) _
                  have q5 : Below wr.heap.size wr w5 := q4.trans (j5.mono q4.size)
                  refine sI_do rfl (wanted_g rfl rfl rfl ((ev_other _ _ (by decide)).trans ((ev_other _ _ (by decide)).trans ((ev_other _ _ (by decide)).trans ((ev_other _ _ (by decide)).trans ((ev_other _ _ (by decide)).trans ((ev_other _ _ (by decide)).trans ((ev_other _ _ (by decide)).trans ((ev_other _ _ (by decide)).trans ((ev_other _ _ (by decide)).trans (ev_same _ _ _ (by simp only [sz_put]; omega)))))))))))) (fun K hK => ?_)
                  refine wp_call1 _ 9 (.tmp 62) #[22] rfl (ev_same _ _ _ (by simp only [sz_put]; omega)) (enter_sum _ _) (sum_any (some ⟨w4.heap.size, 0, none⟩) len2 len2 (fun _ => 0) _ (fun _ => by show 0 < 256; omega) (by omega) vz.rd) ?_
                  rintro e w6 ⟨rfl, j6⟩
                  refine ⟨_, rfl, hK _ _ (fun _ => trivial) ?_⟩
                  clear hK K
                  have k6 : Below w.heap.size w w6 := k5.trans (j6.mono k5.size)
                  show SeqI _ _ _ _ _ _ (Act.put _ (some 63) _) _
                  refine sI_read (v := (.int .i64 ((moreN 0 (fun j => g j ^^^ f j) len2 ^^^ moreN 0 (fun _ => 0) len2 : Nat) : Int))) rfl (fun _ _ _ h => absurd h.1 (fun e => nomatch e)) (wanted_g rfl rfl rfl ((ev_other _ _ (by decide)).trans ((ev_other _ _ (by decide)).trans ((ev_other _ _ (by decide)).trans ((ev_other _ _ (by decide)).trans ((ev_other _ _ (by decide)).trans ((ev_other _ _ (by decide)).trans ((ev_other _ _ (by decide)).trans ((ev_other _ _ (by decide)).trans ((ev_other _ _ (by decide)).trans ((ev_other _ _ (by decide)).trans (ev_same _ _ _ (by simp only [sz_put]; omega))))))))))))) trivial (fun wx _ => run_xorI (.tmp 60) (.tmp 63) rfl ((ev_other _ _ (by decide)).trans ((ev_other _ _ (by decide)).trans (ev_same _ _ _ (by simp only [sz_put]; omega)))) (ev_same _ _ _ (by simp only [sz_put]; omega)) (moreN_lt _ _ _) (moreN_lt _ _ _) wx) ?_
                  show SeqI _ _ _ _ _ _ (Act.put _ (some 64) _) _
                  refine sI_read (v := (.bool true)) rfl (fun _ _ _ h => absurd h.1 (fun e => nomatch e)) (wanted_g rfl rfl rfl ((ev_other _ _ (by decide)).trans ((ev_other _ _ (by decide)).trans ((ev_other _ _ (by decide)).trans ((ev_other _ _ (by decide)).trans ((ev_other _ _ (by decide)).trans ((ev_other _ _ (by decide)).trans ((ev_other _ _ (by decide)).trans ((ev_other _ _ (by decide)).trans ((ev_other _ _ (by decide)).trans ((ev_other _ _ (by decide)).trans ((ev_other _ _ (by decide)).trans (ev_same _ _ _ (by simp only [sz_put]; omega)))))))))))))) trivial (fun wx _ => run_eqlI (.tmp 58) (.tmp 64) rfl ((ev_other _ _ (by decide)).trans ((ev_other _ _ (by decide)).trans ((ev_other _ _ (by decide)).trans ((ev_other _ _ (by decide)).trans (ev_same _ _ _ (by simp only [sz_put]; omega)))))) (by rw [more_lin (unhide HG) (unhide HG2)]; exact (ev_same _ _ _ (by simp only [sz_put]; omega))) wx) ?_
                  show SeqI _ _ _ _ _ _ (Act.put _ (some 65) _) _
                  refine sI_read (v := (.bool true)) rfl (fun _ _ _ h => absurd h.1 (fun e => nomatch e)) (wanted_rd rfl) trivial (fun wx _ => run_pickT (.tmp 53) (.tmp 65) _ rfl ((ev_other _ _ (by decide)).trans ((ev_other _ _ (by decide)).trans ((ev_other _ _ (by decide)).trans ((ev_other _ _ (by decide)).trans ((ev_other _ _ (by decide)).trans ((ev_other _ _ (by decide)).trans ((ev_other _ _ (by decide)).trans ((ev_other _ _ (by decide)).trans ((ev_other _ _ (by decide)).trans ((ev_other _ _ (by decide)).trans ((ev_other _ _ (by decide)).trans ((ev_other _ _ (by decide)).trans (ev_same _ _ _ (by simp only [sz_put]; omega)))))))))))))) (ev_same _ _ _ (by simp only [sz_put]; omega)) wx) ?_
                  show SeqI _ _ _ _ _ _ (Act.put _ (some 66) _) _
                  refine sI_read (v := (.bool true)) rfl (fun _ _ _ h => absurd h.1 (fun e => nomatch e)) (wanted_rd rfl) trivial (fun wx _ => run_assign (.tmp 66) rfl (ev_same _ _ _ (by simp only [sz_put]; omega)) wx) ?_
                  show SeqI _ _ _ _ _ _ (Act.put _ (some 4) _) _
                  refine sI_end ?_
                  exact ⟨rfl, k6, by simp only [put_def], (ev_same _ _ _ (by simp only [sz_put]; omega))⟩
                · intro K hK
                  refine wp_makeB _ (.tmp 61) (.tmp 61) rfl len2 ((ev_other _ _ (by decide)).trans ((ev_other _ _ (by decide)).trans ((ev_other _ _ (by decide)).trans (ev_same _ _ _ (by simp only [sz_put]; omega))))) ((ev_other _ _ (by decide)).trans ((ev_other _ _ (by decide)).trans ((ev_other _ _ (by decide)).trans (ev_same _ _ _ (by simp only [sz_put]; omega))))) (by omega) ?_
                  intro w4 e4 vz j4
                  refine hK _ _ (fun _ => trivial) ?_
                  clear hK K e4
                  have k4 : Below w.heap.size w w4 := k3.trans (j4.mono k3.size)
                  show SeqI _ _ _ _ _ _ (Act.put _ (some 62) _) _
                  have q4 : Below wr.heap.size wr w4 := q3.trans (j4.mono q3.size)
                  refine sI_do rfl (wanted_g rfl rfl rfl ((ev_other _ _ (by decide)).trans ((ev_other _ _ (by decide)).trans ((ev_other _ _ (by decide)).trans ((ev_other _ _ (by decide)).trans ((ev_other _ _ (by decide)).trans ((ev_other _ _ (by decide)).trans ((ev_other _ _ (by decide)).trans ((ev_other _ _ (by decide)).trans (ev_same _ _ _ (by simp only [sz_put]; omega))))))))))) (fun K hK => ?_)
                  refine wp_call1 _ 9 (.tmp 59) #[22] rfl ((ev_other _ _ (by decide)).trans ((ev_other _ _ (by decide)).trans ((ev_other _ _ (by decide)).trans ((ev_other _ _ (by decide)).trans ((ev_other _ _ (by decide)).trans (ev_same _ _ _ (by simp only [sz_put]; omega))))))) (enter_sum _ _) (sum_any (some ⟨bz, 0, none⟩) len2 len2 (fun j => g j ^^^ f j) _ (fun j => Nat.xor_lt_two_pow (n := 8) (unhide HG j) (unhide HG2 j)) (by omega) ((unhide Z3).below q4)) ?_
                  rintro e w5 ⟨rfl, j5⟩
                  refine ⟨_, rfl, hK _ _ (fun _ => trivial) ?_⟩
                  clear hK K
                  have k5 : Below w.heap.size w w5 := k4.trans (j5.mono k4.size)
                  show SeqI _ _ _ _ _ _ (Act.put _ (some 60) _) _
                  have q5 : Below wr.heap.size wr w5 := q4.trans (j5.mono q4.size)
                  refine sI_do rfl (wanted_g rfl rfl rfl ((ev_other _ _ (by decide)).trans ((ev_other _ _ (by decide)).trans ((ev_other _ _ (by decide)).trans ((ev_other _ _ (by decide)).trans ((ev_other _ _ (by decide)).trans ((ev_other _ _ (by decide)).trans ((ev_other _ _ (by decide)).trans ((ev_other _ _ (by decide)).trans ((ev_other _ _ (by decide)).trans (ev_same _ _ _ (by simp only [sz_put]; omega)))))))))))) (fun K hK => ?_)
                  refine wp_call1 _ 9 (.tmp 62) #[22] rfl ((ev_other _ _ (by decide)).trans (ev_same _ _ _ (by simp only [sz_put]; omega))) (enter_sum _ _) (sum_any (some ⟨w3.heap.size, 0, none⟩) len2 len2 (fun _ => 0) _ (fun _ => by show 0 < 256; omega) (by omega) (vz.rd.below j5)) ?_
                  rintro e w6 ⟨rfl, j6⟩
                  refine ⟨_, rfl, hK _ _ (fun _ => trivial) ?_⟩
                  clear hK K
                  have k6 : Below w.heap.size w w6 := k5.trans (j6.mono k5.size)
                  show SeqI _ _ _ _ _ _ (Act.put _ (some 63) _) _
                  refine sI_read (v := (.int .i64 ((moreN 0 (fun j => g j ^^^ f j) len2 ^^^ moreN 0 (fun _ => 0) len2 : Nat) : Int))) rfl (fun _ _ _ h => absurd h.1 (fun e => nomatch e)) (wanted_g rfl rfl rfl ((ev_other _ _ (by decide)).trans ((ev_other _ _ (by decide)).trans ((ev_other _ _ (by decide)).trans ((ev_other _ _ (by decide)).trans ((ev_other _ _ (by decide)).trans ((ev_other _ _ (by decide)).trans ((ev_other _ _ (by decide)).trans ((ev_other _ _ (by decide)).trans ((ev_other _ _ (by decide)).trans ((ev_other _ _ (by decide)).trans (ev_same _ _ _ (by simp only [sz_put]; omega))))))))))))) trivial (fun wx _ => run_xorI (.tmp 60) (.tmp 63) rfl ((ev_other _ _ (by decide)).trans (ev_same _ _ _ (by simp only [sz_put]; omega))) (ev_same _ _ _ (by simp only [sz_put]; omega)) (moreN_lt _ _ _) (moreN_lt _ _ _) wx) ?_
                  show SeqI _ _ _ _ _ _ (Act.put _ (some 64) _) _
                  refine sI_read (v := (.bool true)) rfl (fun _ _ _ h => absurd h.1 (fun e => nomatch e)) (wanted_g rfl rfl rfl ((ev_other _ _ (by decide)).trans ((ev_other _ _ (by decide)).trans ((ev_other _ _ (by decide)).trans ((ev_other _ _ (by decide)).trans ((ev_other _ _ (by decide)).trans ((ev_other _ _ (by decide)).trans ((ev_other _ _ (by decide)).trans ((ev_other _ _ (by decide)).trans ((ev_other _ _ (by decide)).trans ((ev_other _ _ (by decide)).trans ((ev_other _ _ (by decide)).trans (ev_same _ _ _ (by simp only [sz_put]; omega)))))))))))))) trivial (fun wx _ => run_eqlI (.tmp 58) (.tmp 64) rfl ((ev_other _ _ (by decide)).trans ((ev_other _ _ (by decide)).trans ((ev_other _ _ (by decide)).trans ((ev_other _ _ (by decide)).trans (ev_same _ _ _ (by simp only [sz_put]; omega)))))) (by rw [more_lin (unhide HG) (unhide HG2)]; exact (ev_same _ _ _ (by simp only [sz_put]; omega))) wx) ?_
                  show SeqI _ _ _ _ _ _ (Act.put _ (some 65) _) _
                  refine sI_read (v := (.bool true)) rfl (fun _ _ _ h => absurd h.1 (fun e => nomatch e)) (wanted_rd rfl) trivial (fun wx _ => run_pickT (.tmp 53) (.tmp 65) _ rfl ((ev_other _ _ (by decide)).trans ((ev_other _ _ (by decide)).trans ((ev_other _ _ (by decide)).trans ((ev_other _ _ (by decide)).trans ((ev_other _ _ (by decide)).trans ((ev_other _ _ (by decide)).trans ((ev_other _ _ (by decide)).trans ((ev_other _ _ (by decide)).trans ((ev_other _ _ (by decide)).trans ((ev_other _ _ (by decide)).trans ((ev_other _ _ (by decide)).trans ((ev_other _ _ (by decide)).trans (ev_same _ _ _ (by simp only [sz_put]; omega)))))))))))))) (ev_same _ _ _ (by simp only [sz_put]; omega)) wx) ?_
                  show SeqI _ _ _ _ _ _ (Act.put _ (some 66) _) _
                  refine sI_read (v := (.bool true)) rfl (fun _ _ _ h => absurd h.1 (fun e => nomatch e)) (wanted_rd rfl) trivial (fun wx _ => run_assign (.tmp 66) rfl (ev_same _ _ _ (by simp only [sz_put]; omega)) wx) ?_
                  show SeqI _ _ _ _ _ _ (Act.put _ (some 4) _) _
                  refine sI_end ?_
                  exact ⟨rfl, k6, by simp only [put_def], (ev_same _ _ _ (by simp only [sz_put]; omega))⟩
              · intro K hK
                refine wp_makeB _ (.tmp 61) (.tmp 61) rfl len2 ((ev_other _ _ (by decide)).trans (ev_same _ _ _ (by simp only [sz_put]; omega))) ((ev_other _ _ (by decide)).trans (ev_same _ _ _ (by simp only [sz_put]; omega))) (by omega) ?_
                intro w3 e3 vz j3
                refine hK _ _ (fun _ => trivial) ?_
                clear hK K e3
                have k3 : Below w.heap.size w w3 := k2.trans (j3.mono k2.size)
                show SeqI _ _ _ _ _ _ (Act.put _ (some 62) _) _
                have q3 : Below wr.heap.size wr w3 := q2.trans (j3.mono q2.size)
                refine sI_do rfl (wanted_g rfl rfl rfl ((ev_other _ _ (by decide)).trans ((ev_other _ _ (by decide)).trans ((ev_other _ _ (by decide)).trans ((ev_other _ _ (by decide)).trans ((ev_other _ _ (by decide)).trans ((ev_other _ _ (by decide)).trans (ev_same _ _ _ (by simp only [sz_put]; omega))))))))) (fun K hK => ?_)
                refine wp_call1 _ 9 (.tmp 56) #[22] rfl ((ev_other _ _ (by decide)).trans ((ev_other _ _ (by decide)).trans ((ev_other _ _ (by decide)).trans ((ev_other _ _ (by decide)).trans (ev_same _ _ _ (by simp only [sz_put]; omega)))))) (enter_sum _ _) (sum_any (some ⟨by_, 0, none⟩) len2 len2 f _ (unhide HG2) (by omega) ((unhide Y3).below q3)) ?_
                rintro e w4 ⟨rfl, j4⟩
                refine ⟨_, rfl, hK _ _ (fun _ => trivial) ?_⟩
                clear hK K
                have k4 : Below w.heap.size w w4 := k3.trans (j4.mono k3.size)
                show SeqI _ _ _ _ _ _ (Act.put _ (some 57) _) _
                have q4 : Below wr.heap.size wr w4 := q3.trans (j4.mono q3.size)
                refine sI_read (v := (.int .i64 ((moreN 0 g len2 ^^^ moreN 0 f len2 : Nat) : Int))) rfl (fun _ _ _ h => absurd h.1 (fun e => nomatch e)) (wanted_g rfl rfl rfl ((ev_other _ _ (by decide)).trans ((ev_other _ _ (by decide)).trans ((ev_other _ _ (by decide)).trans ((ev_other _ _ (by decide)).trans ((ev_other _ _ (by decide)).trans ((ev_other _ _ (by decide)).trans ((ev_other _ _ (by decide)).trans (ev_same _ _ _ (by simp only [sz_put]; omega)))))))))) trivial (fun wx _ => run_xorI (.tmp 55) (.tmp 57) rfl ((ev_other _ _ (by decide)).trans ((ev_other _ _ (by decide)).trans (ev_same _ _ _ (by simp only [sz_put]; omega)))) (ev_same _ _ _ (by simp only [sz_put]; omega)) (moreN_lt _ _ _) (moreN_lt _ _ _) wx) ?_
                show SeqI _ _ _ _ _ _ (Act.put _ (some 58) _) _
                refine sI_do rfl (wanted_g rfl rfl rfl ((ev_other _ _ (by decide)).trans ((ev_other _ _ (by decide)).trans ((ev_other _ _ (by decide)).trans ((ev_other _ _ (by decide)).trans ((ev_other _ _ (by decide)).trans ((ev_other _ _ (by decide)).trans ((ev_other _ _ (by decide)).trans ((ev_other _ _ (by decide)).trans (ev_same _ _ _ (by simp only [sz_put]; omega))))))))))) (fun K hK => ?_)
                refine wp_call1 _ 9 (.tmp 59) #[22] rfl ((ev_other _ _ (by decide)).trans ((ev_other _ _ (by decide)).trans ((ev_other _ _ (by decide)).trans ((ev_other _ _ (by decide)).trans ((ev_other _ _ (by decide)).trans (ev_same _ _ _ (by simp only [sz_put]; omega))))))) (enter_sum _ _) (sum_any (some ⟨bz, 0, none⟩) len2 len2 (fun j => g j ^^^ f j) _ (fun j => Nat.xor_lt_two_pow (n := 8) (unhide HG j) (unhide HG2 j)) (by omega) ((unhide Z3).below q4)) ?_
                rintro e w5 ⟨rfl, j5⟩
                refine ⟨_, rfl, hK _ _ (fun _ => trivial) ?_⟩
                clear hK K
                have k5 : Below w.heap.size w w5 := k4.trans (j5.mono k4.size)
                show SeqI _ _ _ _ _ _ (Act.put _ (some 60) _) _
                have q5 : Below wr.heap.size wr w5 := q4.trans (j5.mono q4.size)
                refine sI_do rfl (wanted_g rfl rfl rfl ((ev_other _ _ (by decide)).trans ((ev_other _ _ (by decide)).trans ((ev_other _ _ (by decide)).trans ((ev_other _ _ (by decide)).trans ((ev_other _ _ (by decide)).trans ((ev_other _ _ (by decide)).trans ((ev_other _ _ (by decide)).trans ((ev_other _ _ (by decide)).trans ((ev_other _ _ (by decide)).trans (ev_same _ _ _ (by simp only [sz_put]; omega)))))))))))) (fun K hK => ?_)
                refine wp_call1 _ 9 (.tmp 62) #[22] rfl ((ev_other _ _ (by decide)).trans ((ev_other _ _ (by decide)).trans ((ev_other _ _ (by decide)).trans (ev_same _ _ _ (by simp only [sz_put]; omega))))) (enter_sum _ _) (sum_any (some ⟨w2.heap.size, 0, none⟩) len2 len2 (fun _ => 0) _ (fun _ => by show 0 < 256; omega) (by omega) ((vz.rd.below j4).below j5)) ?_
                rintro e w6 ⟨rfl, j6⟩
                refine ⟨_, rfl, hK _ _ (fun _ => trivial) ?_⟩
                clear hK K
                have k6 : Below w.heap.size w w6 := k5.trans (j6.mono k5.size)
                show SeqI _ _ _ _ _ _ (Act.put _ (some 63) _) _
                refine sI_read (v := (.int .i64 ((moreN 0 (fun j => g j ^^^ f j) len2 ^^^ moreN 0 (fun _ => 0) len2 : Nat) : Int))) rfl (fun _ _ _ h => absurd h.1 (fun e => nomatch e)) (wanted_g rfl rfl rfl ((ev_other _ _ (by decide)).trans ((ev_other _ _ (by decide)).trans ((ev_other _ _ (by decide)).trans ((ev_other _ _ (by decide)).trans ((ev_other _ _ (by decide)).trans ((ev_other _ _ (by decide)).trans ((ev_other _ _ (by decide)).trans ((ev_other _ _ (by decide)).trans ((ev_other _ _ (by decide)).trans ((ev_other _ _ (by decide)).trans (ev_same _ _ _ (by simp only [sz_put]; omega))))))))))))) trivial (fun wx _ => run_xorI (.tmp 60) (.tmp 63) rfl ((ev_other _ _ (by decide)).trans (ev_same _ _ _ (by simp only [sz_put]; omega))) (ev_same _ _ _ (by simp only [sz_put]; omega)) (moreN_lt _ _ _) (moreN_lt _ _ _) wx) ?_
                show SeqI _ _ _ _ _ _ (Act.put _ (some 64) _) _
                refine sI_read (v := (.bool true)) rfl (fun _ _ _ h => absurd h.1 (fun e => nomatch e)) (wanted_g rfl rfl rfl ((ev_other _ _ (by decide)).trans ((ev_other _ _ (by decide)).trans ((ev_other _ _ (by decide)).trans ((ev_other _ _ (by decide)).trans ((ev_other _ _ (by decide)).trans ((ev_other _ _ (by decide)).trans ((ev_other _ _ (by decide)).trans ((ev_other _ _ (by decide)).trans ((ev_other _ _ (by decide)).trans ((ev_other _ _ (by decide)).trans ((ev_other _ _ (by decide)).trans (ev_same _ _ _ (by simp only [sz_put]; omega)))))))))))))) trivial (fun wx _ => run_eqlI (.tmp 58) (.tmp 64) rfl ((ev_other _ _ (by decide)).trans ((ev_other _ _ (by decide)).trans ((ev_other _ _ (by decide)).trans (ev_same _ _ _ (by simp only [sz_put]; omega))))) (by rw [more_lin (unhide HG) (unhide HG2)]; exact (ev_same _ _ _ (by simp only [sz_put]; omega))) wx) ?_
                show SeqI _ _ _ _ _ _ (Act.put _ (some 65) _) _
                refine sI_read (v := (.bool true)) rfl (fun _ _ _ h => absurd h.1 (fun e => nomatch e)) (wanted_rd rfl) trivial (fun wx _ => run_pickT (.tmp 53) (.tmp 65) _ rfl ((ev_other _ _ (by decide)).trans ((ev_other _ _ (by decide)).trans ((ev_other _ _ (by decide)).trans ((ev_other _ _ (by decide)).trans ((ev_other _ _ (by decide)).trans ((ev_other _ _ (by decide)).trans ((ev_other _ _ (by decide)).trans ((ev_other _ _ (by decide)).trans ((ev_other _ _ (by decide)).trans ((ev_other _ _ (by decide)).trans ((ev_other _ _ (by decide)).trans ((ev_other _ _ (by decide)).trans (ev_same _ _ _ (by simp only [sz_put]; omega)))))))))))))) (ev_same _ _ _ (by simp only [sz_put]; omega)) wx) ?_
                show SeqI _ _ _ _ _ _ (Act.put _ (some 66) _) _
                refine sI_read (v := (.bool true)) rfl (fun _ _ _ h => absurd h.1 (fun e => nomatch e)) (wanted_rd rfl) trivial (fun wx _ => run_assign (.tmp 66) rfl (ev_same _ _ _ (by simp only [sz_put]; omega)) wx) ?_
                show SeqI _ _ _ _ _ _ (Act.put _ (some 4) _) _
                refine sI_end ?_
                exact ⟨rfl, k6, by simp only [put_def], (ev_same _ _ _ (by simp only [sz_put]; omega))⟩
            · intro K hK
              refine wp_makeB _ (.tmp 61) (.tmp 61) rfl len2 (ev_same _ _ _ (by simp only [sz_put]; omega)) (ev_same _ _ _ (by simp only [sz_put]; omega)) (by omega) ?_
              intro w2 e2 vz j2
              refine hK _ _ (fun _ => trivial) ?_
              clear hK K e2
              have k2 : Below w.heap.size w w2 := k1.trans (j2.mono k1.size)
              show SeqI _ _ _ _ _ _ (Act.put _ (some 62) _) _
              have q2 : Below wr.heap.size wr w2 := q1.trans (j2.mono q1.size)
              refine sI_do rfl (wanted_g rfl rfl rfl ((ev_other _ _ (by decide)).trans ((ev_other _ _ (by decide)).trans ((ev_other _ _ (by decide)).trans ((ev_other _ _ (by decide)).trans ((ev_other _ _ (by decide)).trans (ev_same _ _ _ (by simp only [sz_put]; omega)))))))) (fun K hK => ?_)
              refine wp_call1 _ 9 (.tmp 54) #[22] rfl ((ev_other _ _ (by decide)).trans ((ev_other _ _ (by decide)).trans ((ev_other _ _ (by decide)).trans ((ev_other _ _ (by decide)).trans (ev_same _ _ _ (by simp only [sz_put]; omega)))))) (enter_sum _ _) (sum_any (some ⟨bx, 0, none⟩) len2 len2 g _ (unhide HG) (by omega) ((unhide X3).below q2)) ?_
              rintro e w3 ⟨rfl, j3⟩
              refine ⟨_, rfl, hK _ _ (fun _ => trivial) ?_⟩
              clear hK K
              have k3 : Below w.heap.size w w3 := k2.trans (j3.mono k2.size)
              show SeqI _ _ _ _ _ _ (Act.put _ (some 55) _) _
              have q3 : Below wr.heap.size wr w3 := q2.trans (j3.mono q2.size)
              refine sI_do rfl (wanted_g rfl rfl rfl ((ev_other _ _ (by decide)).trans ((ev_other _ _ (by decide)).trans ((ev_other _ _ (by decide)).trans ((ev_other _ _ (by decide)).trans ((ev_other _ _ (by decide)).trans ((ev_other _ _ (by decide)).trans (ev_same _ _ _ (by simp only [sz_put]; omega))))))))) (fun K hK => ?_)
              refine wp_call1 _ 9 (.tmp 56) #[22] rfl ((ev_other _ _ (by decide)).trans ((ev_other _ _ (by decide)).trans ((ev_other _ _ (by decide)).trans ((ev_other _ _ (by decide)).trans (ev_same _ _ _ (by simp only [sz_put]; omega)))))) (enter_sum _ _) (sum_any (some ⟨by_, 0, none⟩) len2 len2 f _ (unhide HG2) (by omega) ((unhide Y3).below q3)) ?_
              rintro e w4 ⟨rfl, j4⟩
              refine ⟨_, rfl, hK _ _ (fun _ => trivial) ?_⟩
              clear hK K
              have k4 : Below w.heap.size w w4 := k3.trans (j4.mono k3.size)
              show SeqI _ _ _ _ _ _ (Act.put _ (some 57) _) _
              have q4 : Below wr.heap.size wr w4 := q3.trans (j4.mono q3.size)
              refine sI_read (v := (.int .i64 ((moreN 0 g len2 ^^^ moreN 0 f len2 : Nat) : Int))) rfl (fun _ _ _ h => absurd h.1 (fun e => nomatch e)) (wanted_g rfl rfl rfl ((ev_other _ _ (by decide)).trans ((ev_other _ _ (by decide)).trans ((ev_other _ _ (by decide)).trans ((ev_other _ _ (by decide)).trans ((ev_other _ _ (by decide)).trans ((ev_other _ _ (by decide)).trans ((ev_other _ _ (by decide)).trans (ev_same _ _ _ (by simp only [sz_put]; omega)))))))))) trivial (fun wx _ => run_xorI (.tmp 55) (.tmp 57) rfl ((ev_other _ _ (by decide)).trans (ev_same _ _ _ (by simp only [sz_put]; omega))) (ev_same _ _ _ (by simp only [sz_put]; omega)) (moreN_lt _ _ _) (moreN_lt _ _ _) wx) ?_
              show SeqI _ _ _ _ _ _ (Act.put _ (some 58) _) _
              refine sI_do rfl (wanted_g rfl rfl rfl ((ev_other _ _ (by decide)).trans ((ev_other _ _ (by decide)).trans ((ev_other _ _ (by decide)).trans ((ev_other _ _ (by decide)).trans ((ev_other _ _ (by decide)).trans ((ev_other _ _ (by decide)).trans ((ev_other _ _ (by decide)).trans ((ev_other _ _ (by decide)).trans (ev_same _ _ _ (by simp only [sz_put]; omega))))))))))) (fun K hK => ?_)
              refine wp_call1 _ 9 (.tmp 59) #[22] rfl ((ev_other _ _ (by decide)).trans ((ev_other _ _ (by decide)).trans ((ev_other _ _ (by decide)).trans ((ev_other _ _ (by decide)).trans ((ev_other _ _ (by decide)).trans (ev_same _ _ _ (by simp only [sz_put]; omega))))))) (enter_sum _ _) (sum_any (some ⟨bz, 0, none⟩) len2 len2 (fun j => g j ^^^ f j) _ (fun j => Nat.xor_lt_two_pow (n := 8) (unhide HG j) (unhide HG2 j)) (by omega) ((unhide Z3).below q4)) ?_
              rintro e w5 ⟨rfl, j5⟩
              refine ⟨_, rfl, hK _ _ (fun _ => trivial) ?_⟩
              clear hK K
              have k5 : Below w.heap.size w w5 := k4.trans (j5.mono k4.size)
              show SeqI _ _ _ _ _ _ (Act.put _ (some 60) _) _
              have q5 : Below wr.heap.size wr w5 := q4.trans (j5.mono q4.size)
              refine sI_do rfl (wanted_g rfl rfl rfl ((ev_other _ _ (by decide)).trans ((ev_other _ _ (by decide)).trans ((ev_other _ _ (by decide)).trans ((ev_other _ _ (by decide)).trans ((ev_other _ _ (by decide)).trans ((ev_other _ _ (by decide)).trans ((ev_other _ _ (by decide)).trans ((ev_other _ _ (by decide)).trans ((ev_other _ _ (by decide)).trans (ev_same _ _ _ (by simp only [sz_put]; omega)))))))))))) (fun K hK => ?_)
              refine wp_call1 _ 9 (.tmp 62) #[22] rfl ((ev_other _ _ (by decide)).trans ((ev_other _ _ (by decide)).trans ((ev_other _ _ (by decide)).trans ((ev_other _ _ (by decide)).trans (ev_same _ _ _ (by simp only [sz_put]; omega)))))) (enter_sum _ _) (sum_any (some ⟨w1.heap.size, 0, none⟩) len2 len2 (fun _ => 0) _ (fun _ => by show 0 < 256; omega) (by omega) (((vz.rd.below j3).below j4).below j5)) ?_
              rintro e w6 ⟨rfl, j6⟩
              refine ⟨_, rfl, hK _ _ (fun _ => trivial) ?_⟩
              clear hK K
              have k6 : Below w.heap.size w w6 := k5.trans (j6.mono k5.size)
              show SeqI _ _ _ _ _ _ (Act.put _ (some 63) _) _
              refine sI_read (v := (.int .i64 ((moreN 0 (fun j => g j ^^^ f j) len2 ^^^ moreN 0 (fun _ => 0) len2 : Nat) : Int))) rfl (fun _ _ _ h => absurd h.1 (fun e => nomatch e)) (wanted_g rfl rfl rfl ((ev_other _ _ (by decide)).trans ((ev_other _ _ (by decide)).trans ((ev_other _ _ (by decide)).trans ((ev_other _ _ (by decide)).trans ((ev_other _ _ (by decide)).trans ((ev_other _ _ (by decide)).trans ((ev_other _ _ (by decide)).trans ((ev_other _ _ (by decide)).trans ((ev_other _ _ (by decide)).trans ((ev_other _ _ (by decide)).trans (ev_same _ _ _ (by simp only [sz_put]; omega))))))))))))) trivial (fun wx _ => run_xorI (.tmp 60) (.tmp 63) rfl ((ev_other _ _ (by decide)).trans (ev_same _ _ _ (by simp only [sz_put]; omega))) (ev_same _ _ _ (by simp only [sz_put]; omega)) (moreN_lt _ _ _) (moreN_lt _ _ _) wx) ?_
              show SeqI _ _ _ _ _ _ (Act.put _ (some 64) _) _
              refine sI_read (v := (.bool true)) rfl (fun _ _ _ h => absurd h.1 (fun e => nomatch e)) (wanted_g rfl rfl rfl ((ev_other _ _ (by decide)).trans ((ev_other _ _ (by decide)).trans ((ev_other _ _ (by decide)).trans ((ev_other _ _ (by decide)).trans ((ev_other _ _ (by decide)).trans ((ev_other _ _ (by decide)).trans ((ev_other _ _ (by decide)).trans ((ev_other _ _ (by decide)).trans ((ev_other _ _ (by decide)).trans ((ev_other _ _ (by decide)).trans ((ev_other _ _ (by decide)).trans (ev_same _ _ _ (by simp only [sz_put]; omega)))))))))))))) trivial (fun wx _ => run_eqlI (.tmp 58) (.tmp 64) rfl ((ev_other _ _ (by decide)).trans ((ev_other _ _ (by decide)).trans ((ev_other _ _ (by decide)).trans (ev_same _ _ _ (by simp only [sz_put]; omega))))) (by rw [more_lin (unhide HG) (unhide HG2)]; exact (ev_same _ _ _ (by simp only [sz_put]; omega))) wx) ?_
              show SeqI _ _ _ _ _ _ (Act.put _ (some 65) _) _
              refine sI_read (v := (.bool true)) rfl (fun _ _ _ h => absurd h.1 (fun e => nomatch e)) (wanted_rd rfl) trivial (fun wx _ => run_pickT (.tmp 53) (.tmp 65) _ rfl ((ev_other _ _ (by decide)).trans ((ev_other _ _ (by decide)).trans ((ev_other _ _ (by decide)).trans ((ev_other _ _ (by decide)).trans ((ev_other _ _ (by decide)).trans ((ev_other _ _ (by decide)).trans ((ev_other _ _ (by decide)).trans ((ev_other _ _ (by decide)).trans ((ev_other _ _ (by decide)).trans ((ev_other _ _ (by decide)).trans ((ev_other _ _ (by decide)).trans ((ev_other _ _ (by decide)).trans (ev_same _ _ _ (by simp only [sz_put]; omega)))))))))))))) (ev_same _ _ _ (by simp only [sz_put]; omega)) wx) ?_
              show SeqI _ _ _ _ _ _ (Act.put _ (some 66) _) _
              refine sI_read (v := (.bool true)) rfl (fun _ _ _ h => absurd h.1 (fun e => nomatch e)) (wanted_rd rfl) trivial (fun wx _ => run_assign (.tmp 66) rfl (ev_same _ _ _ (by simp only [sz_put]; omega)) wx) ?_
              show SeqI _ _ _ _ _ _ (Act.put _ (some 4) _) _
              refine sI_end ?_
              exact ⟨rfl, k6, by simp only [put_def], (ev_same _ _ _ (by simp only [sz_put]; omega))⟩
          case rest =>
            rintro a' w9 ⟨k9, hd, h4⟩
            obtain ⟨tm, df⟩ := a'
            have hd2 : df = [] := hd
            subst hd2
            have H4 := hide h4
            clear h4 hd
            go_wp2_with fail
            go_ret
            exact ⟨congrArg Ending.returned (unhide H4), k9⟩

end Go.Proofs.Ytgndilalhikmmaa
