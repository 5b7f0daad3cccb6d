/- Changes, appended one by one. -/
import Derived.Test.YtngmeaaglogieaaMemOK
import Derived.ArgAppend
namespace Go.Proofs.Ytngmeaaglogieaa
open Go.RowKit

/-- Changes as cells. -/
def chL : List (Int × Nat) → List Value
  | [] => []
  | c :: l => .int .i64 c.1 :: .int .i64 (c.2 : Nat) :: chL l
theorem chL_len (l : List (Int × Nat)) : (chL l).length = l.length * 2 := by
  induction l with
  | nil => rfl
  | cons c l ih => show (chL l).length + 1 + 1 = (l.length + 1) * 2; omega
theorem chL_append (l m : List (Int × Nat)) : chL (l ++ m) = chL l ++ chL m := by
  induction l with
  | nil => rfl
  | cons c l ih => show _ :: _ :: chL (l ++ m) = _ :: _ :: (chL l ++ chL m); rw [ih]
theorem chL_at {l : List (Int × Nat)} : ∀ {i : Nat} {c : Int × Nat}, l[i]? = some c → (chL l)[i * 2]? = some (.int .i64 c.1) ∧ (chL l)[i * 2 + 1]? = some (.int .i64 (c.2 : Nat)) := by
  induction l with
  | nil => intro i c h; simp at h
  | cons d l ih =>
    intro i c h
    cases i with
    | zero => simp at h; subst h; exact ⟨rfl, rfl⟩
    | succ i =>
      simp at h
      have := ih h
      rw [show (i + 1) * 2 = i * 2 + 1 + 1 by omega]
      exact this
theorem infoChg : (Try.prog.info? 94).map (fun i => (i.zero, i.size, i.bytes)) = some (some (.agg #[.int .i64 0, .int .i64 0]), 2, 16) := by kernel_rfl
/-- Rows of changes of one's own. -/
def OwnC (w : World) (B : Nat) (v : Value) (l : List (Int × Nat)) : Prop := w.ownsRow B 94 2 v l.length (chL l)
theorem OwnC.nil (w : World) (B : Nat) : OwnC w B (.slice none 0 0) [] := World.ownsRow_nil _ _ _ _
theorem OwnC.slice {w : World} {B : Nat} {v : Value} {l : List (Int × Nat)} (h : OwnC w B v l) : ∃ ao cap, v = .slice ao l.length cap := by
  rcases h.2 with ⟨rfl, h0⟩ | ⟨g, cap, cur, rfl, _⟩
  · exact ⟨none, 0, by rw [h0]⟩
  · exact ⟨_, cap, rfl⟩
theorem OwnC.kept {z B : Nat} {w w' : World} {v : Value} {l : List (Int × Nat)} (h : OwnC w B v l) (k : Kept z w w') (hz : z < B) : OwnC w' B v l := by
  refine ⟨h.1, ?_⟩
  rcases h.2 with hn | ⟨g, cap, cur, rfl, hb, hgg, rest⟩
  · exact .inl hn
  · exact .inr ⟨g, cap, cur, rfl, hb, (k.block g (lt_of_block hgg) (by omega)).trans hgg, rest⟩
theorem OwnC.below {B : Nat} {w w' : World} {v : Value} {l : List (Int × Nat)} (h : OwnC w B v l) (k : Below w.heap.size w w') : OwnC w' B v l := by
  refine ⟨h.1, ?_⟩
  rcases h.2 with hn | ⟨g, cap, cur, rfl, hb, hgg, rest⟩
  · exact .inl hn
  · exact .inr ⟨g, cap, cur, rfl, hb, (k.block g (lt_of_block hgg)).trans hgg, rest⟩
theorem OwnC.rd {w : World} {B cap n : Nat} {ao : Option Addr} {l : List (Int × Nat)} (h : OwnC w B (.slice ao n cap) l) : ChRd B w ao l := fun hl => by
  rcases h.2 with ⟨_, h0⟩ | ⟨g, c2, cur, e, hb, rest⟩
  · omega
  · cases e
    refine ⟨g, 0, rfl, hb, fun i c hi => ?_⟩
    obtain ⟨h1, h2⟩ := chL_at hi
    have c1 := h.cells (g := g) rfl _ _ h1
    have c2 := h.cells (g := g) rfl _ _ h2
    rw [Addr.add_lit] at c1 c2
    rw [← Nat.add_assoc] at c2
    exact ⟨c1, c2⟩
theorem wpList_joinC (w : World) {ops : Array Oper} {rest : List Oper} {o : Oper} {a : Act} {Q : Exit → Act → World → Prop} (hgd : o.guard = none) (s x : Operand)
    (ho : o.op = .call { callee := .builtin .append, args := #[s, x], argTypes := #[73, 73] }) (B : Nat) (hB : B ≤ w.heap.size)
    (v : Value) (l : List (Int × Nat)) (hs : a.eval s = v) (hown : OwnC w B v l) (b : Nat) (c : Int × Nat) (hx : a.eval x = .slice (some ⟨b, 0, none⟩) 1 1) (c0 : w.cell? ⟨b, 0, none⟩ = some (.int .i64 c.1)) (c1 : w.cell? ⟨b, 1, none⟩ = some (.int .i64 (c.2 : Nat))) (hl : l.length ≤ 1000)
    (h : ∀ v' w', OwnC w' B v' (l ++ [c]) → Below B w w' → wpList Try.prog ops Q rest (a.put o.dst v') w') : wpList Try.prog ops Q (o :: rest) a w := by
  obtain ⟨i0, hi, hz0, hz1, hz2⟩ := info_parts infoChg
  refine wpList_append_own w hgd s x 73 ho B 94 i0 (.agg #[.int .i64 0, .int .i64 0]) 2 16 Try.underlying73 hi hz0 hz1 hz2 rfl (by decide) v l.length (chL l) hs hown ⟨b, 0, none⟩ 1 1 (chL [c]) hx rfl ?_ ?_ (by unfold maxLen; omega) (by omega) hB ?_
  · intro j u hj
    rw [Addr.add_lit, Nat.zero_add]
    match j with
    | 0 => simp [chL] at hj; subst hj; exact c0
    | 1 => simp [chL] at hj; subst hj; exact c1
    | j + 2 => simp [chL] at hj
  · intro u hu
    simp [chL] at hu
    rcases hu with rfl | rfl <;> rfl
  · intro v' w2 ho2 hgr _
    refine h v' w2 ?_ ?_
    · unfold OwnC; rw [List.length_append, chL_append]; exact ho2
    · refine ⟨hgr.os, hgr.tape, hgr.output, hgr.size, fun k hk => hgr.block k (by omega) (fun e => ?_)⟩
      have := (hown.lt k e.symm).1
      omega

end Go.Proofs.Ytngmeaaglogieaa
