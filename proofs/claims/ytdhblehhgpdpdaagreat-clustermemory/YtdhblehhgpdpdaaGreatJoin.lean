import Derived.Test.YtdhblehhgpdpdaaGreatNear127
import Derived.ArgAppend
import Derived.OwnWalk
import Derived.Laws.AppendOwnNone
namespace Go.Proofs.YtdhblehhgpdpdaaGreat
open Go.RowKit
class InfK (P : Program) (t : TypeId) (e : outParam TypeId) (size bytes : outParam Nat) : Prop where
 sl : P.underlying t = some (.slice e)
 inf : ∃ i z, P.info? e = some i ∧ i.zero = some z ∧ i.size = size ∧ i.bytes = bytes ∧ z.cells.size = size
 pos : 0 < size
def Rdc (w : World) (size : Nat) (x : Value) (m : Nat) (news : List Value) : Prop := (x = .slice none 0 0 ∧ m = 0 ∧ news = []) ∨ ∃ ad c, x = .slice (some ad) m c ∧ news.length = m * size ∧ ∀ j u, news[j]? = some u → w.cell? (ad.add j) = some u
section
variable {P : Program} {t e : TypeId} {size bytes : Nat} {w : World}
theorem rdc_own {B : Nat} {v : Value} {n : Nat} {xs : List Value} (h : w.ownsRow B e size v n xs) : Rdc w size v n xs := by
 have hl := h.1
 rcases h.2 with ⟨rfl, rfl⟩ | ⟨g, cap, cur, rfl, hb, hg, hc, hm, hsz, hcur⟩
 ·exact Or.inl ⟨rfl, rfl, by simpa using hl⟩
 ·exact Or.inr ⟨⟨g, 0, none⟩, cap, rfl, hl, fun j u hj => h.cells (g := g) rfl j u hj⟩
theorem run_join (I : InfK P t e size bytes) {B : Nat} (hB : B ≤ w.heap.size) (ty : TypeId) {v x : Value} {n m : Nat} {xs news : List Value} (hown : w.ownsRow B e size v n xs) (hx : Rdc w size x m news) (h1 : ∀ u ∈ news, u.oneCell' = true) (h63 : n + m ≤ maxLen) (hby : (n + m) * bytes ≤ 140737488355328) :
  ∃ v' w', (Builtin.append_ #[t, t] ty #[v, x]).run P w = .ok v' w' ∧ w'.ownsRow B e size v' (n + m) (xs ++ news) ∧ w.grownBy w' v.ownBlock ∧ ∀ k, v'.ownBlock = some k → v.ownBlock = some k ∨ w.heap.size ≤ k := by
 obtain ⟨i0, z, hi, hz0, hz1, hz2, hz3⟩ := I.inf
 rcases hx with ⟨rfl, rfl, rfl⟩ | ⟨ad, c, rfl, hl, hnews⟩
 ·have hrun := run_append_owned_none (P := P) (w := w) B t ty e i0 size I.sl hi v n xs hown
  exact ⟨v, w, hrun, by simpa using hown, ⟨rfl, rfl, rfl, Nat.le_refl _, fun _ _ _ => rfl⟩, fun k hk => Or.inl hk⟩
 ·rcases hown.2 with ⟨rfl, rfl⟩ | ⟨r, cap, cur, rfl, hb, hg, hc, hm, hsz, hcur⟩
  ·obtain rfl : xs = [] := by simpa using hown.1
   obtain ⟨v', w2, hrun, ho2, hgr, _⟩ := run_append_own (P := P) w w.heap.size t ty e i0 z size bytes I.sl hi hz0 hz1 hz2 hz3 I.pos (.slice none 0 0) 0 [] (World.ownsRow_nil _ _ _ _) ad m c news hl hnews h1 h63 hby (Nat.le_refl _)
   exact ⟨v', w2, hrun, rw_base ho2 hB, hgr, fun k hk => Or.inr (ho2.lt k hk).1⟩
  ·by_cases hfit : n + m ≤ cap
   ·obtain ⟨w2, hrun, ho2, hgr⟩ := run_append_fits (P := P) w B t ty e i0 size I.sl hi hz1 r n cap xs hown ad m c news hl hnews h1 hfit
    exact ⟨_, w2, hrun, ho2, hgr, fun k hk => Or.inl hk⟩
   ·obtain ⟨v', w2, hrun, ho2, hgr⟩ := run_append_arg_grows (P := P) w t ty e i0 z size bytes I.sl hi hz0 hz1 hz2 hz3 I.pos ⟨r, 0, none⟩ n cap xs hown.1 (fun j u hj => hown.cells (g := r) rfl j u hj) ad m c news hl hnews (by omega) h63 hby
    exact ⟨v', w2, hrun, rw_base ho2 hB, ⟨hgr.os, hgr.tape, hgr.output, hgr.size, fun k hk _ => hgr.block k hk (by simp)⟩, fun k hk => Or.inr (ho2.lt k hk).1⟩
variable {o : Oper} {a : Act} {K : Act → World → Prop} {Q : Exit → Act → World → Prop}
theorem wp_joinA {s x : Operand} (ho : o.op = .call { callee := .builtin .append, args := #[s, x], argTypes := #[t, t] }) (I : InfK P t e size bytes) {B : Nat} (hB : B ≤ w.heap.size) {v u : Value} {n m : Nat} {xs news : List Value} (hs : a.eval s = v) (hx : a.eval x = u) (hown : w.ownsRow B e size v n xs) (hr : Rdc w size u m news) (h1 : ∀ u ∈ news, u.oneCell' = true) (h63 : n + m ≤ maxLen) (hby : (n + m) * bytes ≤ 140737488355328)
  (h : ∀ v' w', w'.ownsRow B e size v' (n + m) (xs ++ news) → w.grownBy w' v.ownBlock → (∀ k, v'.ownBlock = some k → v.ownBlock = some k ∨ w.heap.size ≤ k) → K (a.put o.dst v') w') : WpI P o a w K Q := by
 obtain ⟨v', w', hrun, h2, h3, h4⟩ := run_join (P := P) I hB o.type hown hr h1 h63 hby
 refine ⟨?_⟩
 unfold Oper.wp execOp
 simp only [ho, resolve, invoke, builtin, Sem.run_bind, Sem.run_pure, Result.andThen_ok, List.map_toArray, List.map_cons, List.map_nil, hs, hx, hrun]
 exact h v' w' h2 h3 h4
end
def It.and (x y : It) : It := ⟨fun w => x.p w ∧ y.p w, fun k => x.foot k ∨ y.foot k, fun h e => ⟨x.ok h.1 (fun k h1 h2 => e k h1 (Or.inl h2)), y.ok h.2 (fun k h1 h2 => e k h1 (Or.inr h2))⟩, fun h e => by
 rcases e with e | e
 ·exact x.lt h.1 e
 ·exact y.lt h.2 e⟩
theorem Cx.merge {w0 w : World} {x y : It} {l : List It} (H : Cx w0 w (x :: y :: l)) : Cx w0 w (x.and y :: l) := by
 obtain ⟨d1, d2⟩ := List.pairwise_cons.1 H.dis
 obtain ⟨d3, d4⟩ := List.pairwise_cons.1 d2
 refine ⟨H.bel, fun z hz => ?_, fun z hz j hj => ?_, List.pairwise_cons.2 ⟨fun z hz j h1 h2 => ?_, d4⟩⟩
 ·rcases List.mem_cons.1 hz with rfl | hz
  ·exact ⟨H.o0, H.o1⟩
  ·exact H.it z (List.mem_cons_of_mem _ (List.mem_cons_of_mem _ hz))
 ·rcases List.mem_cons.1 hz with rfl | hz
  ·rcases hj with hj | hj
   ·exact H.up x List.mem_cons_self j hj
   ·exact H.up y (List.mem_cons_of_mem _ List.mem_cons_self) j hj
  ·exact H.up z (List.mem_cons_of_mem _ (List.mem_cons_of_mem _ hz)) j hj
 ·rcases h1 with h1 | h1
  ·exact d1 z (List.mem_cons_of_mem _ hz) j h1 h2
  ·exact d3 z hz j h1 h2
section
variable {P : Program} {ops : Array Oper} {Q : Exit → Act → World → Prop} {A : Act} {L : List (Nat × Value)} {w0 w : World} {rest : List Oper} {o : Oper} {d : Nat} {l : List It} {x0 x1 x2 x3 x4 x5 : It} {t e : TypeId} {size bytes n m : Nat} {v u : Value} {xs news : List Value} {s x : Operand}
theorem q_ap2 (H : Cx w0 w (x0 :: x1 :: ownI w0.heap.size e size v n xs :: l)) (hr : Rdc w size u m news) (h1 : ∀ u ∈ news, u.oneCell' = true) (h63 : n + m ≤ maxLen) (hby : (n + m) * bytes ≤ 140737488355328)
  (h : ∀ v' w', Cx w0 w' (x0 :: x1 :: ownI w0.heap.size e size v' (n + m) (xs ++ news) :: l) → LstI P ops Q rest (putL A ((d, v') :: L)) w')
  (ho : o.op = .call { callee := .builtin .append, args := #[s, x], argTypes := #[t, t] } := by rfl) (I : InfK P t e size bytes := by infer_instance) (hs : (putL A L).eval s = v := by exact Qv) (hx : (putL A L).eval x = u := by exact Qv) (hd : o.dst = some d := by rfl) (hw : Region.wanted o (yielded ops (putL A L).tmps) = true := by exact wanted_rd rfl) : LstI P ops Q (o :: rest) (putL A L) w :=
 m_do hd hw (fun _ hK => wp_joinA ho I H.size hs hx H.o2 hr h1 h63 hby (fun v' w' h2 h3 h4 => hK _ _ (h v' w' (H.p2 h3.os h3.tape h3.output h3.size (fun j h5 h6 => h3.block j h5 (fun e => h6 e.symm)) (ownI w0.heap.size e size v' (n + m) (xs ++ news)) h2 h4))))
end
end Go.Proofs.YtdhblehhgpdpdaaGreat
