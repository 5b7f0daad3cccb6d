/- A byte turned twice: plain facts. -/
import Derived.Test.YthjeedlhlkggkabBusSrt
namespace Go.Proofs.Ythjeedlhlkggkab
open Go.RowKit

theorem ldQ_fs {D : List Ld} {k s : Nat} (hk : k ≤ D.length) (hs : s < k) : fsP (s : Nat) (ldQ D k) = s := by
  refine fsP_is (fun j p hj hp => ?_) (fun p hp => ?_) (by rw [ldQ_len hk]; omega)
  · obtain ⟨l, _, rfl⟩ := ldQ_at hk hp
    unfold ldP; dsimp only; omega
  · obtain ⟨l, _, rfl⟩ := ldQ_at hk hp
    rfl
theorem fsP_modify (s : Int) (a m : Nat) (l : List Pc) : ∀ i, fsP s (l.modify i (turP a m)) = fsP s l := by
  induction l with
  | nil => intro i; simp
  | cons p l ih =>
    intro i
    cases i with
    | zero => show (if (turP a m p).se = s then 0 else fsP s l + 1) = (if p.se = s then 0 else fsP s l + 1); rfl
    | succ i => show (if p.se = s then 0 else fsP s (l.modify i (turP a m)) + 1) = _; rw [ih i]; rfl
theorem turP_twice (a m : Nat) (p : Pc) : turP a m (turP a m p) = p := by
  obtain ⟨fr, to, du, se, ds⟩ := p
  unfold turP
  dsimp only
  congr 1
  apply List.ext_getElem?
  intro i
  rw [List.set_set]
  by_cases ha : a < ds.length
  · have e1 : (ds.set a (ds.getD a 0 ^^^ m)).getD a 0 = ds.getD a 0 ^^^ m := by
      rw [List.getD_eq_getElem?_getD, List.getElem?_set, if_pos rfl, if_pos ha]; rfl
    rw [e1, Nat.xor_assoc, Nat.xor_self, Nat.xor_zero, List.getElem?_set]
    by_cases e : a = i
    · subst e
      rw [if_pos rfl, if_pos ha, List.getD_eq_getElem?_getD, List.getElem?_eq_getElem ha]; rfl
    · rw [if_neg e]
  · rw [List.getElem?_set]
    by_cases e : a = i
    · subst e
      rw [if_pos rfl, if_neg ha, List.getElem?_eq_none (by omega)]
    · rw [if_neg e]
theorem modify_twice (a m : Nat) (l : List Pc) (i : Nat) : (l.modify i (turP a m)).modify i (turP a m) = l := by
  apply List.ext_getElem?
  intro j
  rw [List.getElem?_modify, List.getElem?_modify]
  rcases l[j]? with _ | p
  · rfl
  · by_cases e : i = j
    · simp only [Option.map_eq_map, Option.map_some, if_pos e, turP_twice]
    · simp only [Option.map_eq_map, Option.map_some, if_neg e]
theorem twice_plain {D : List Ld} {k s A M : Nat} {p : Pc} (hk : k ≤ D.length) (hs : s < k) (hp : (ldQ D k)[s]? = some p) (hA : A < p.ds.length) (hM : M < 256) :
    turnE ⟨0, (k : Nat), ldQ D k⟩ (s : Nat) (A : Nat) (M : Nat) = 0 ∧ turnS ⟨0, (k : Nat), ldQ D k⟩ (s : Nat) (A : Nat) (M : Nat) = ⟨0, (k : Nat), (ldQ D k).modify s (turP A M)⟩ ∧
    turnE ⟨0, (k : Nat), (ldQ D k).modify s (turP A M)⟩ (s : Nat) (A : Nat) (M : Nat) = 0 ∧ turnS ⟨0, (k : Nat), (ldQ D k).modify s (turP A M)⟩ (s : Nat) (A : Nat) (M : Nat) = ⟨0, (k : Nat), ldQ D k⟩ ∧
    loseE ⟨0, (k : Nat), ldQ D k⟩ (s : Nat) = 0 ∧ (loseS ⟨0, (k : Nat), ldQ D k⟩ (s : Nat)).q.length = k - 1 := by
  have f1 := ldQ_fs hk hs
  have f2 := fsP_modify (s : Nat) A M (ldQ D k) s
  rw [f1] at f2
  have e1 : turnE ⟨0, (k : Nat), ldQ D k⟩ (s : Nat) (A : Nat) (M : Nat) = 0 := by
    unfold turnE; dsimp only; rw [f1, hp]; dsimp only; rw [if_neg (by omega)]
  have e2 : turnE ⟨0, (k : Nat), (ldQ D k).modify s (turP A M)⟩ (s : Nat) (A : Nat) (M : Nat) = 0 := by
    unfold turnE; dsimp only
    rw [f2, List.getElem?_modify, hp]
    simp only [Option.map_eq_map, Option.map_some, if_true]
    rw [turP_len, if_neg (by omega)]
  have hl : fsP (s : Nat) (ldQ D k) < (ldQ D k).length := by rw [f1, ldQ_len hk]; exact hs
  refine ⟨e1, ?_, e2, ?_, ?_, ?_⟩
  · unfold turnS; rw [if_pos e1]; dsimp only; rw [f1]; rfl
  · unfold turnS; rw [if_pos e2]; dsimp only; rw [f2]; simp only [Int.toNat_natCast, modify_twice]
  · unfold loseE; rw [if_pos hl]
  · unfold loseS; rw [if_pos hl]; dsimp only; rw [List.length_eraseIdx_of_lt hl, ldQ_len hk]

end Go.Proofs.Ythjeedlhlkggkab
