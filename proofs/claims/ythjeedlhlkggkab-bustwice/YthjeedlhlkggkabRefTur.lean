/- Contracts of the reference: TurnByte. -/
import Derived.Test.YthjeedlhlkggkabRefLos
import Derived.Test.YthjeedlhlkggkabFrameOps
namespace Go.Proofs.Ythjeedlhlkggkab
open Go.RowKit

/-- A located parcel with a byte turned. -/
def turL (a m : Nat) (c : Lp) : Lp := ⟨turP a m c.p, c.ao, c.cap⟩
theorem turL_V (a m : Nat) (c : Lp) : lpV (turL a m c) = lpV c := by unfold lpV turL; dsimp only; rw [turP_len]
theorem turL_C (a m : Nat) (c : Lp) : lpC (turL a m c) = lpC c := by unfold lpC turL; dsimp only; rw [turP_len]; rfl
theorem lpL_modify (a m : Nat) (L : List Lp) : ∀ i, lpL (L.modify i (turL a m)) = lpL L := by
  induction L with
  | nil => intro i; simp
  | cons c l ih =>
    intro i
    cases i with
    | zero => show lpC (turL a m c) ++ lpL l = _; rw [turL_C]; rfl
    | succ i => show lpC c ++ lpL (l.modify i (turL a m)) = _; rw [ih i]; rfl
theorem these_modify {M : List Lp} {q : List Pc} (h : These M q) (a m i : Nat) : These (M.modify i (turL a m)) (q.modify i (turP a m)) := by
  unfold These at *
  rw [← h]
  clear h
  induction M generalizing i with
  | nil => simp
  | cons c l ih =>
    cases i with
    | zero => rfl
    | succ i => show c.p :: (l.modify i (turL a m)).map Lp.p = c.p :: (l.map Lp.p).modify i (turP a m); rw [ih i]
theorem mem_modify {M : List Lp} {f : Lp → Lp} : ∀ {i : Nat} {d : Lp}, d ∈ M.modify i f → ∃ j c, M[j]? = some c ∧ ((j = i ∧ d = f c) ∨ (j ≠ i ∧ d = c)) := by
  intro i d hd
  obtain ⟨j, hj⟩ := List.getElem?_of_mem hd
  rw [List.getElem?_modify] at hj
  rcases e : M[j]? with _ | c
  · rw [e] at hj; cases hj
  · rw [e] at hj
    simp only [Option.map_eq_map, Option.map_some] at hj
    by_cases ei : i = j
    · rw [if_pos ei] at hj; cases hj; exact ⟨j, c, e, Or.inl ⟨ei.symm, rfl⟩⟩
    · rw [if_neg ei] at hj; cases hj; exact ⟨j, d, e, Or.inr ⟨fun h => ei h.symm, rfl⟩⟩
theorem apart_modify {M : List Lp} (a m i : Nat) (h : ApartL M) : ApartL (M.modify i (turL a m)) := by
  unfold ApartL at *
  rw [List.pairwise_iff_getElem] at *
  intro x y hx hy hxy g hg
  have hx' : x < M.length := by simpa using hx
  have hy' : y < M.length := by simpa using hy
  have ev : ∀ (z : Nat) (hz : z < (M.modify i (turL a m)).length) (hz' : z < M.length), lpV ((M.modify i (turL a m))[z]) = lpV M[z] := by
    intro z hz hz'
    rw [List.getElem_modify]
    split
    · exact turL_V a m _
    · rfl
  rw [ev x hx hx'] at hg
  rw [ev y hy hy']
  exact h x y hx' hy' hxy g hg
theorem gF_set {ds : List Nat} {a : Nat} (ha : a < ds.length) (x : Nat) (i : Nat) : gF (ds.set a x) i = if i = a then x else gF ds i := by
  unfold gF
  rw [List.getD_eq_getElem?_getD, List.getD_eq_getElem?_getD, List.getElem?_set]
  by_cases e : a = i
  · subst e; rw [if_pos rfl, if_pos rfl, if_pos ha]; rfl
  · rw [if_neg e, if_neg (fun h => e h.symm)]
/-- The byte's block, written. -/
theorem OwnB.turn {w : World} {B a m gb : Nat} {c : Lp} (h : OwnB w B c) (ha : a < c.p.ds.length) (hg : c.ao = some ⟨gb, 0, none⟩) : OwnB (w.setCell ⟨gb, a, none⟩ (.int .u8 ((gF c.p.ds a ^^^ m : Nat) : Int))) B (turL a m c) := by
  have V : Vh 5 w gb c.p.ds.length c.cap (bF (gF c.p.ds)) := by
    obtain ⟨r, cap, e, hb, hV⟩ := Vh.of_owns (by omega) h
    unfold lpV at e
    rw [hg] at e
    cases e
    exact hV
  have hB : B ≤ gb := (h.lt gb (by unfold lpV; rw [hg]; rfl)).1
  have V2 := Vh.set V a (.int .u8 ((gF c.p.ds a ^^^ m : Nat) : Int))
  have V3 : Vh 5 (w.setCell ⟨gb, a, none⟩ (.int .u8 ((gF c.p.ds a ^^^ m : Nat) : Int))) gb c.p.ds.length c.cap (bF (gF (turP a m c.p).ds)) := Vh.congr V2 (fun i _ => by
    unfold stW bF bV turP
    dsimp only
    rw [gF_set ha]
    by_cases e : i = a
    · rw [if_pos e, if_pos e]; rfl
    · rw [if_neg e, if_neg e])
  unfold OwnB
  rw [turL_V]
  unfold lpV turL
  dsimp only
  rw [turP_len, hg]
  exact V3.owns hB
theorem OwnQ.turn {w : World} {B a m gb i : Nat} {v : Value} {M : List Lp} {c : Lp} (h : OwnQ w B v M) (hi : M[i]? = some c) (ha : a < c.p.ds.length) (hg : c.ao = some ⟨gb, 0, none⟩) : OwnQ (w.setCell ⟨gb, a, none⟩ (.int .u8 ((gF c.p.ds a ^^^ m : Nat) : Int))) B v (M.modify i (turL a m)) := by
  have hc := h.2.1 c (List.mem_of_getElem? hi)
  have hgb : (lpV c).ownBlock = some gb := by unfold lpV; rw [hg]; rfl
  have k := kept_set w gb a (.int .u8 ((gF c.p.ds a ^^^ m : Nat) : Int))
  refine ⟨?_, fun d hd => ?_, apart_modify a m i h.2.2⟩
  · rw [List.length_modify, lpL_modify]
    refine ownS_kept h.1 k (fun e => ?_)
    obtain ⟨u1, h1⟩ := ownS_type h.1 e
    obtain ⟨u2, h2⟩ := ownS_type hc hgb
    rw [h1] at h2; cases h2
  · obtain ⟨j, d', hj, ⟨rfl, rfl⟩ | ⟨hji, rfl⟩⟩ := mem_modify hd
    · rw [hi] at hj; cases hj
      exact hc.turn ha hg
    · refine ownS_kept (h.2.1 d (List.mem_of_getElem? hj)) k (fun e => ?_)
      have hp := h.2.2
      unfold ApartL at hp
      rw [List.pairwise_iff_getElem] at hp
      obtain ⟨lj, ej⟩ := List.getElem?_eq_some_iff.1 hj
      obtain ⟨li, ei⟩ := List.getElem?_eq_some_iff.1 hi
      rcases Nat.lt_or_gt_of_ne hji with hlt | hlt
      · exact hp j i lj li hlt gb (by rw [ej]; exact e) (by rw [ei]; exact hgb)
      · exact hp i j li lj hlt gb (by rw [ei]; exact hgb) (by rw [ej]; exact e)
theorem tur_no {b : Bs} {s a m : Int} {w w' : World} {e : Nat} (h : turnE b s a m = e) (h0 : e ≠ 0) (k : Below w.heap.size w w') :
    ∃ (ao' : Option Addr) (cap' : Nat) (L' : List Lp), Ending.returned (.tuple #[.agg #[.int .i64 0, .int .i64 0, .slice none 0 0], .int .i64 (e : Nat)]) = .returned (.tuple #[busV (turnS b s a m).now (turnS b s a m).ser (.slice ao' L'.length cap'), .int .i64 (turnE b s a m : Nat)]) ∧ These L' (turnS b s a m).q ∧ BNew w.heap.size w' ao' cap' L' ∧ Below w.heap.size w w' := by
  have hz : turnS b s a m = zeroBs := by unfold turnS; rw [if_neg (by rw [h]; exact h0)]
  rw [hz, h]
  exact ⟨none, 0, [], rfl, rfl, bnew_nil _ _, k⟩
theorem tur_yes {b : Bs} {s a m : Int} {w w' : World} {i : Nat} (he : turnE b s a m = 0) (h : fsP s b.q = i) {ao : Option Addr} {cap n B : Nat} {M : List Lp} (hM : These M b.q) (o : OwnQ w' B (.slice ao n cap) (M.modify i (turL a.toNat m.toNat))) (hn : n = M.length) (hB : w.heap.size ≤ B) (k : Below w.heap.size w w') :
    ∃ (ao' : Option Addr) (cap' : Nat) (L' : List Lp), Ending.returned (.tuple #[.agg #[.int .i64 b.now, .int .i64 b.ser, .slice ao n cap], .int .i64 0]) = .returned (.tuple #[busV (turnS b s a m).now (turnS b s a m).ser (.slice ao' L'.length cap'), .int .i64 (turnE b s a m : Nat)]) ∧ These L' (turnS b s a m).q ∧ BNew w.heap.size w' ao' cap' L' ∧ Below w.heap.size w w' := by
  have hz : turnS b s a m = ⟨b.now, b.ser, b.q.modify i (turP a.toNat m.toNat)⟩ := by unfold turnS; rw [if_pos he, h]
  rw [hz, he]
  have hl : (M.modify i (turL a.toNat m.toNat)).length = n := by rw [List.length_modify, hn]
  rw [← hl] at o
  refine ⟨ao, cap, M.modify i (turL a.toNat m.toNat), ?_, these_modify hM _ _ _, o.new.weak hB, k⟩
  rw [hl]; rfl

end Go.Proofs.Ythjeedlhlkggkab
