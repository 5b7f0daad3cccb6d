/- Contracts of the reference: BusStep. -/
import Derived.Test.YthjeedlhlkggkabNear8
namespace Go.Proofs.Ythjeedlhlkggkab
open Go.RowKit

/-- What lies in memory while parcels come. -/
def StI (w : World) (g : Nat) (t S : Int) (vq : Value) (M : List Lp) (vC : Value) (C : List Lp) (W : World) : Prop :=
  BuAt W (w.heap.size + 1) 0 0 (.slice none 0 0) ∧ BuAt W g t S vq ∧ RowP W (w.heap.size + 1 + 1) vq M ∧ RowP W (g + 1) vC C ∧ (∀ c, c ∈ M ∨ c ∈ C → OwnB W (w.heap.size + 1 + 1) c) ∧ Below w.heap.size w W ∧ w.heap.size + 1 + 1 ≤ g ∧ g < W.heap.size ∧ ∀ k, vq.ownBlock = some k → k < g
section
variable {w W W' : World} {g : Nat} {t S : Int} {vq vC : Value} {M C : List Lp}
theorem StI.below (h : StI w g t S vq M vC C W) (k : Below W.heap.size W W') : StI w g t S vq M vC C W' :=
  ⟨h.1.below k, h.2.1.below k, ownS_below h.2.2.1 k, ownS_below h.2.2.2.1 k, fun c hc => (h.2.2.2.2.1 c hc).below k, h.2.2.2.2.2.1.trans (k.mono h.2.2.2.2.2.1.size), h.2.2.2.2.2.2.1, Nat.lt_of_lt_of_le h.2.2.2.2.2.2.2.1 k.size, h.2.2.2.2.2.2.2.2⟩
theorem StI.drew (h : StI w g t S vq M vC C W) : StI w g t S vq M vC C W.drew :=
  ⟨h.1, h.2.1, h.2.2.1, h.2.2.2.1, h.2.2.2.2.1, below_drew h.2.2.2.2.2.1, h.2.2.2.2.2.2.1, h.2.2.2.2.2.2.2.1, h.2.2.2.2.2.2.2.2⟩
/-- A row of bytes stays while rows of parcels and variables of buses are written. -/
theorem OwnB.other {B k : Nat} {c : Lp} {v : Value} {n : Nat} {xs : List Value} (h : OwnB W B c) (o : W.ownsRow k 32 5 v n xs) (gr : W.grownBy W' v.ownBlock) : OwnB W' B c :=
  ownS_grown h gr (fun b hb e => by
    obtain ⟨u1, h1⟩ := ownS_type h hb
    obtain ⟨u2, h2⟩ := ownS_type o e
    rw [h1] at h2; cases h2)
theorem OwnB.otherB {B b : Nat} {c : Lp} {N S : Int} {r : Value} (h : OwnB W B c) (m : BuAt W b N S r) (k : Kept b W W') : OwnB W' B c :=
  ownS_kept h k (fun e => by
    obtain ⟨u1, h1⟩ := ownS_type h e
    unfold BuAt at m
    rw [h1] at m; cases m)
theorem RowP.otherB {B b : Nat} {v : Value} {L : List Lp} {N S : Int} {r : Value} (h : RowP W B v L) (m : BuAt W b N S r) (k : Kept b W W') : RowP W' B v L :=
  ownS_kept h k (fun e => by
    obtain ⟨u1, h1⟩ := ownS_type h e
    unfold BuAt at m
    rw [h1] at m; cases m)
/-- One has come. -/
theorem StI.come {v' : Value} {c : Lp} (h : StI w g t S vq M vC C W) (r : RowP W' (g + 1) v' (C ++ [c])) (gr : W.grownBy W' vC.ownBlock) (hc : c ∈ M) : StI w g t S vq M v' (C ++ [c]) W' := by
  have hC : ∀ k, vC.ownBlock = some k → g < k := fun k hk => (h.2.2.2.1.lt k hk).1
  have kk : Below (g + 1) W W' := ⟨gr.os, gr.tape, gr.output, gr.size, fun k hk => gr.block k (by have := h.2.2.2.2.2.2.2.1; omega) (fun e => by have := hC k e.symm; omega)⟩
  have g1 := h.2.2.2.2.2.2.1
  refine ⟨h.1.under kk (by omega), h.2.1.under kk (by omega), ownS_grown h.2.2.1 gr (fun b hb e => by have := h.2.2.2.2.2.2.2.2 b hb; have := hC b e; omega), r, fun d hd => ?_, h.2.2.2.2.2.1.trans (kk.mono (by omega)), g1, Nat.lt_of_lt_of_le h.2.2.2.2.2.2.2.1 gr.size, h.2.2.2.2.2.2.2.2⟩
  refine (h.2.2.2.2.1 d ?_).other h.2.2.2.1 gr
  rcases hd with hd | hd
  · exact Or.inl hd
  · rcases List.mem_append.1 hd with hd | hd
    · exact Or.inr hd
    · simp at hd; subst hd; exact Or.inl hc
/-- One is cut out. -/
theorem StI.cut {w6 w7 : World} {gq n n' vc i : Nat} (h : StI w g t S (.slice (some ⟨gq, 0, none⟩) n vc) M vC C W) (gr : W.grownBy w6 (some gq)) (k : Kept g w6 w7) (m : BuAt w7 g t S (.slice (some ⟨gq, 0, none⟩) n' vc)) (r : RowP w7 (w.heap.size + 1 + 1) (.slice (some ⟨gq, 0, none⟩) n' vc) (M.eraseIdx i)) : StI w g t S (.slice (some ⟨gq, 0, none⟩) n' vc) (M.eraseIdx i) vC C w7 := by
  have hq := h.2.2.2.2.2.2.2.2 gq rfl
  have hq2 := (h.2.2.1.lt gq rfl).1
  have g1 := h.2.2.2.2.2.2.1; have g2 := h.2.2.2.2.2.2.2.1
  have m6 : BuAt w6 g t S (.slice (some ⟨gq, 0, none⟩) n vc) := h.2.1.same (gr.block g g2 (fun e => by cases e; omega))
  have b6 : Below w.heap.size w w6 := h.2.2.2.2.2.1.trans ⟨gr.os, gr.tape, gr.output, gr.size, fun k hk => gr.block k (by omega) (fun e => by cases e; omega)⟩
  refine ⟨(h.1.same (gr.block _ h.1.lt (fun e => by cases e; omega))).kept k (by omega), m, r, RowP.otherB (ownS_grown h.2.2.2.1 gr (fun b hb e => by cases e; have := (h.2.2.2.1.lt gq hb).1; omega)) m6 k, fun c hc => ?_, below_of_kept b6 k (by omega) b6.size, g1, Nat.lt_of_lt_of_le g2 (Nat.le_trans gr.size k.size), fun k hk => by cases hk; exact hq⟩
  have ob := h.2.2.2.2.1 c (hc.elim (fun x => Or.inl (List.mem_of_mem_eraseIdx x)) Or.inr)
  exact OwnB.otherB (OwnB.other ob h.2.2.1 gr) m6 k
end
theorem RowP.new {w : World} {B cap : Nat} {ao : Option Addr} {L : List Lp} (h : RowP w B (.slice ao L.length cap) L) {C : Nat} (hb : ∀ c, c ∈ L → OwnB w C c) {D : Nat} (h1 : D ≤ B) (h2 : D ≤ C) : BNew D w ao cap L := by
  obtain ⟨ao', cap', e, hl⟩ := ownS_slice h
  cases e
  refine ⟨⟨fun hl => ?_, hl, fun c hc => (hb c hc).rd⟩, (ownS_room h).weak h1, fun c hc => (ownS_room (hb c hc)).weak h2⟩
  rcases h.2 with ⟨_, h0⟩ | ⟨g, c2, cur, e, _, rest⟩
  · omega
  · cases e
    refine ⟨g, 0, rfl, fun i c hi => PcAt.of (fun k hk u hu => ?_)⟩
    have c1 := h.cells (g := g) rfl (i * 5 + k) u (by rw [lpL_at hi hk]; exact hu)
    rw [Addr.add_lit, ← Nat.add_assoc] at c1
    exact c1
theorem RowP.at {w : World} {B cap n g : Nat} {L : List Lp} (h : RowP w B (.slice (some ⟨g, 0, none⟩) n cap) L) {i : Nat} {c : Lp} (hi : L[i]? = some c) : PcAt w g (0 + i * 5) c.p (lpV c) :=
  PcAt.of (fun k hk u hu => by
    have c1 := h.cells (g := g) rfl (i * 5 + k) u (by rw [lpL_at hi hk]; exact hu)
    rw [Addr.add_lit, ← Nat.add_assoc] at c1
    exact c1)
/-- How far the parcels have come. -/
def IsRun (q : List Pc) (t : Int) (M C : List Lp) : Prop := C.map Lp.p ++ srtP ((M.map Lp.p).filter (dueP t)) = srtP (q.filter (dueP t)) ∧ (M.map Lp.p).filter (fun p => !dueP t p) = q.filter (fun p => !dueP t p) ∧ C.length + M.length = q.length
def lenV : Value → Nat
  | .slice _ n _ => n
  | _ => 0
theorem stp_no {b : Bs} {t : Int} {w w' : World} (h : stepE b.now t = 3) (k : Below w.heap.size w w') :
    ∃ (ao' : Option Addr) (cap' : Nat) (L' : List Lp) (ao2 : Option Addr) (cap2 : Nat) (L2 : List Lp), Ending.returned (.tuple #[.agg #[.int .i64 0, .int .i64 0, .slice none 0 0], .slice none 0 0, .int .i64 3]) = .returned (.tuple #[busV (stepS b t).now (stepS b t).ser (.slice ao' L'.length cap'), .slice ao2 L2.length cap2, .int .i64 (stepE b.now t : Nat)]) ∧ These L' (stepS b t).q ∧ BNew w.heap.size w' ao' cap' L' ∧ These L2 (comeS b t) ∧ BNew w.heap.size w' ao2 cap2 L2 ∧ Below w.heap.size w w' := by
  have hz : stepS b t = zeroBs := by unfold stepS; rw [if_neg (by rw [h]; decide)]
  have hc : comeS b t = [] := by unfold comeS; rw [if_neg (by rw [h]; decide)]
  rw [hz, h, hc]
  exact ⟨none, 0, [], none, 0, [], rfl, rfl, bnew_nil _ _, rfl, bnew_nil _ _, k⟩
theorem stp_yes {b : Bs} {t : Int} {w w' : World} (h : stepE b.now t = 0) {ao : Option Addr} {cap : Nat} {M : List Lp} {ca : Option Addr} {cc : Nat} {C : List Lp} (hr : IsRun b.q t M C) (hn : IsBst t (M.map Lp.p) M.length (-1)) (o : BNew w.heap.size w' ao cap M) (o2 : BNew w.heap.size w' ca cc C) (k : Below w.heap.size w w') :
    ∃ (ao' : Option Addr) (cap' : Nat) (L' : List Lp) (ao2 : Option Addr) (cap2 : Nat) (L2 : List Lp), Ending.returned (.tuple #[.agg #[.int .i64 t, .int .i64 b.ser, .slice ao M.length cap], .slice ca C.length cc, .int .i64 0]) = .returned (.tuple #[busV (stepS b t).now (stepS b t).ser (.slice ao' L'.length cap'), .slice ao2 L2.length cap2, .int .i64 (stepE b.now t : Nat)]) ∧ These L' (stepS b t).q ∧ BNew w.heap.size w' ao' cap' L' ∧ These L2 (comeS b t) ∧ BNew w.heap.size w' ao2 cap2 L2 ∧ Below w.heap.size w w' := by
  have hn' : IsBst t (M.map Lp.p) (M.map Lp.p).length (-1) := by rw [List.length_map]; exact hn
  obtain ⟨f1, f2⟩ := isb_none hn'
  have hz : stepS b t = ⟨t, b.ser, M.map Lp.p⟩ := by unfold stepS; rw [if_pos h, ← hr.2.1, f2]
  have hc : comeS b t = C.map Lp.p := by unfold comeS; rw [if_pos h, ← hr.1, f1]; exact List.append_nil _
  rw [hz, h, hc]
  exact ⟨ao, cap, M, ca, cc, C, rfl, rfl, o, rfl, o2, k⟩
theorem run_next {q : List Pc} {t : Int} {M C : List Lp} {n : Nat} {c : Lp} (h : IsRun q t M C) (hb : IsBst t (M.map Lp.p) M.length (n : Nat)) (hc : M[n]? = some c) : IsRun q t (M.eraseIdx n) (C ++ [c]) := by
  have hb' : IsBst t (M.map Lp.p) (M.map Lp.p).length (n : Nat) := by rw [List.length_map]; exact hb
  obtain ⟨f1, f2⟩ := isb_some hb' (m := c.p) (by rw [List.getElem?_map, hc]; rfl)
  have em : (M.eraseIdx n).map Lp.p = (M.map Lp.p).eraseIdx n := these_erase (M := M) (q := M.map Lp.p) rfl n
  have hl := (List.getElem?_eq_some_iff.1 hc).1
  refine ⟨?_, ?_, ?_⟩
  · rw [em, List.map_append, List.append_assoc, ← h.1, f1]; rfl
  · rw [em, f2, h.2.1]
  · rw [List.length_append, List.length_eraseIdx_of_lt hl, ← h.2.2]; simp; omega

end Go.Proofs.Ythjeedlhlkggkab
