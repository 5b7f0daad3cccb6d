/- Joined: OpenRow, FilSpec, ClkSpec. -/
import Derived.Test.YtngmeaaglogieabGreatRows
import Derived.Test.YtngmeaaglogieabGreatRowPlain
import Derived.Lib.SmallJoins
import Derived.OpenShut
import Derived.SizedLaws
import Derived.ChangeSlices
import Derived.Test.YtngmeaaglogieabGreatNear37
import Derived.Test.YtngmeaaglogieabGreatFixPlain
namespace Go.Proofs.YtngmeaaglogieabGreat
open Go.ChangeShapes Go.WideShapes Go.ChangeAt Go.RowKit Go.Joins

/-- A slice of numbers that was handed in. -/
def ArgS (w : World) (ao : Option Addr) (len cap : Nat) (f : Nat → Int) : Prop :=
  ((ao = none ∧ len = 0 ∧ cap = 0) ∨ ∃ x, ao = some x ∧ ∀ i, i < len → w.cell? (x.add i) = some (.int .i64 (f i))) ∧ len * 8 ≤ 140737488351232 ∧ ∀ i, R64 (f i)
theorem ArgS.rds {w : World} {ao : Option Addr} {len cap : Nat} {f : Nat → Int} (h : ArgS w ao len cap f) : Rds w ao len f := by
  intro hl
  rcases h.1 with ⟨_, h0, _⟩ | ⟨x, rfl, hc⟩
  · omega
  · obtain ⟨b, o, spot⟩ := x
    have hs : spot = none := by simpa [Addr.add] using World.cell?_spot (hc 0 hl)
    subst hs
    exact ⟨b, o, rfl, fun i hi => by have := hc i hi; rw [Addr.add_lit] at this; exact this⟩
theorem ArgS.below {w w' : World} {ao : Option Addr} {len cap : Nat} {f : Nat → Int} (h : ArgS w ao len cap f) (k : Below w.heap.size w w') : ArgS w' ao len cap f := by
  refine ⟨?_, h.2⟩
  rcases h.1 with h | ⟨x, rfl, hc⟩
  · exact Or.inl h
  · exact Or.inr ⟨x, rfl, fun i hi => at_below (hc i hi) k⟩

theorem bytesInt : Tryz.prog.bytesOf 3 = 8 := by kernel_rfl
theorem cellsInt : Tryz.prog.cellsOf 3 = 1 := by kernel_rfl

section
variable {H : Type} {enc : TypeId × Value → H} {w : World} {base : Nat} {held : Bool}

set_option maxRecDepth 100000 in
theorem open_row {fuel : Nat} {v : Value} {x : DataW H × List MemPlace} (h : DataW.trod enc Tryz.prog w base (fun _ => true) held fuel 39 [v] = some x) (hsz : ∀ n ∈ x.1.weights Tryz.prog 39, n ≤ reachBytes) :
    ∃ ao len cap f, v = .slice ao len cap ∧ ArgS w ao len cap f := by
  rcases open_ints Tryz.underlying39 Tryz.underlying3 cellsInt h with ⟨hcs, _⟩ | ⟨a, len, cap, zs, hcs, _, hl, _, hz, hx, hcell, hwz⟩
  · simp at hcs
    exact ⟨none, 0, 0, fun _ => 0, hcs, Or.inl ⟨rfl, rfl, rfl⟩, by decide, fun _ => R64_nought⟩
  · simp at hcs
    have hz' : zs.length = cap := by simpa using hz
    have hb : zs.length * 8 ≤ reachBytes := by
      refine hsz _ ?_
      rw [hx]
      simp [DataW.weights, Tryz.underlying39, bytesInt, lits]
      left; omega
    refine ⟨some a, len, cap, fun i => zs.getD i 0, hcs, Or.inr ⟨a, rfl, fun i hi => hcell i (by omega)⟩, by unfold reachBytes at hb; omega, fun i => ?_⟩
    rcases Nat.lt_or_ge i zs.length with hi | hi
    · have e : zs.getD i 0 = zs[i] := by simp [List.getD, hi]
      show R64 (zs.getD i 0)
      rw [e]; exact R64.of_wf (hwz _ (List.getElem_mem hi))
    · have e : zs.getD i 0 = 0 := by simp [List.getD, hi]
      show R64 (zs.getD i 0)
      rw [e]; exact R64_nought
set_option maxRecDepth 100000 in
theorem open_rowArg {r : Reach} {b0 : Nat} {v : Value} {d : DataW H} {p : List MemPlace} (hv : Value.okWide Tryz.prog w r b0 39 v) (h : DataW.Trod enc Tryz.prog w base (fun _ => true) held 39 v d p) (hsz : ∀ n ∈ d.weights Tryz.prog 39, n ≤ reachBytes) :
    ∃ ao len cap f, v = .slice ao len cap ∧ ArgS w ao len cap f := by
  obtain ⟨ao, len, cap, rfl⟩ := okWide_slice Tryz.underlying39 hv
  obtain ⟨fuel, hf⟩ := h
  have hf' : DataW.trod enc Tryz.prog w base (fun _ => true) held fuel 39 [.slice ao len cap] = some (d, p) := hf
  exact open_row hf' hsz
set_option maxRecDepth 100000 in
theorem open_rowRoom {r : Reach} {b0 : Nat} {v : Value} {d : DataW H} {p : List MemPlace} (hv : Value.okWide Tryz.prog w r b0 39 v) (h : DataW.Trod enc Tryz.prog w base (fun _ => true) held 39 v d p) (hsz : ∀ n ∈ d.weights Tryz.prog 39, n ≤ reachBytes) :
    ∃ ao len cap f, v = .slice ao len cap ∧ ArgS w ao len cap f ∧ len ≤ cap := by
  obtain ⟨ao, len, cap, f, rfl, ha⟩ := open_rowArg hv h hsz
  refine ⟨ao, len, cap, f, rfl, ha, ?_⟩
  obtain ⟨fuel, hf⟩ := h
  have hf' : DataW.trod enc Tryz.prog w base (fun _ => true) held fuel 39 [.slice ao len cap] = some (d, p) := hf
  rcases open_ints Tryz.underlying39 Tryz.underlying3 cellsInt hf' with ⟨hcs, _⟩ | ⟨a, l, c, zs, hcs, _, hl, _⟩
  · simp at hcs
    omega
  · simp at hcs
    omega
end

end Go.Proofs.YtngmeaaglogieabGreat

namespace Go.Proofs.YtngmeaaglogieabGreat
open Go.RowKit

/-- A filter's state. -/
structure St where
  X : Int
  V : Int
  P00 : Int
  P01 : Int
  P11 : Int
  B : Bool
  M : Int
/-- All its numbers have 64 bits. -/
structure St.Ok (s : St) : Prop where
  X : R64 s.X
  V : R64 s.V
  P00 : R64 s.P00
  P01 : R64 s.P01
  P11 : R64 s.P11
  M : R64 s.M
/-- A sum, a difference, a product, stopped. -/
def adV (a b : Int) : Int := clampZ (a + b)
def sbC (a b : Int) : Int := clampZ (a - b)
def muV (a b : Int) : Int := clampZ (mulQ a b)
def adB (a b : Int) : Bool := bentZ (a + b)
def sbE (a b : Int) : Bool := bentZ (a - b)
def muB (a b : Int) : Bool := bentZ (mulQ a b)
theorem adV_R (a b : Int) : R64 (adV a b) := clampZ_R _
theorem sbC_R (a b : Int) : R64 (sbC a b) := clampZ_R _
theorem muV_R (a b : Int) : R64 (muV a b) := clampZ_R _

/-- The state a while later. -/
def predS (s : St) (dt q : Int) : St where
  X := adV s.X (muV s.V dt)
  V := s.V
  P00 := adV (adV (adV s.P00 (muV s.P01 dt)) (muV s.P01 dt)) (muV (muV s.P11 dt) dt)
  P01 := adV s.P01 (muV s.P11 dt)
  P11 := adV s.P11 q
  B := s.B || muB s.P01 dt || muB s.P11 dt || muB s.V dt || adB s.X (muV s.V dt) || adB s.P00 (muV s.P01 dt) || adB (adV s.P00 (muV s.P01 dt)) (muV s.P01 dt) || muB (muV s.P11 dt) dt ||
    adB (adV (adV s.P00 (muV s.P01 dt)) (muV s.P01 dt)) (muV (muV s.P11 dt) dt) || adB s.P01 (muV s.P11 dt) || adB s.P11 q
  M := s.M
theorem predS_ok {s : St} (h : s.Ok) (dt q : Int) : (predS s dt q).Ok := ⟨adV_R _ _, h.V, adV_R _ _, adV_R _ _, adV_R _ _, h.M⟩

/-- One more reading passed over. -/
def moreM (m : Int) : Int := wrap64 (m + 1)
/-- How far a reading is off, how unsure the two are together, whether it is passed over. -/
def offY (s : St) (z : Int) : Int := sbC z s.X
def offW (s : St) (r : Int) : Int := adV s.P00 r
def overB (s : St) (z r gate : Int) : Bool := decide (offW s r ≤ 0) || decide (muV gate (offW s r) < muV (offY s z) (offY s z))
/-- A reading that is y off is taken, where the state was bent x. -/
def takeS (s : St) (y w : Int) : St where
  X := adV s.X (muV (divV s.P00 w) y)
  V := adV s.V (muV (divV s.P01 w) y)
  P00 := sbC s.P00 (muV (divV s.P00 w) s.P00)
  P01 := sbC s.P01 (muV (divV s.P00 w) s.P01)
  P11 := sbC s.P11 (muV (divV s.P01 w) s.P01)
  B := s.B || divB s.P00 w || divB s.P01 w || muB (divV s.P00 w) y || adB s.X (muV (divV s.P00 w) y) || muB (divV s.P01 w) y || adB s.V (muV (divV s.P01 w) y) ||
    muB (divV s.P00 w) s.P00 || sbE s.P00 (muV (divV s.P00 w) s.P00) || muB (divV s.P00 w) s.P01 || sbE s.P01 (muV (divV s.P00 w) s.P01) || muB (divV s.P01 w) s.P01 || sbE s.P11 (muV (divV s.P01 w) s.P01)
  M := 0
/-- What the steps ahead of taking a reading bend. -/
def bentU (s : St) (z r gate : Int) : Bool := s.B || sbE z s.X || adB s.P00 r || muB (offY s z) (offY s z) || muB gate (offW s r)
def updS (s : St) (z r gate : Int) : St := if overB s z r gate then { s with M := moreM s.M } else takeS { s with B := bentU s z r gate } (offY s z) (offW s r)
def updT (s : St) (z r gate : Int) : Bool := !overB s z r gate
theorem moreM_R (m : Int) : R64 (moreM m) := by unfold moreM R64; unfold wrap64; omega
theorem updS_ok {s : St} (h : s.Ok) (z r gate : Int) : (updS s z r gate).Ok := by
  unfold updS; split
  · exact ⟨h.X, h.V, h.P00, h.P01, h.P11, moreM_R _⟩
  · exact ⟨adV_R _ _, adV_R _ _, sbC_R _ _, sbC_R _ _, sbC_R _ _, R64_nought⟩

/-- How a filter works. -/
structure Tn where
  Dt : Int
  Q : Int
  R : Int
  G : Int
structure Tn.Ok (t : Tn) : Prop where
  Dt : R64 t.Dt
  Q : R64 t.Q
  R : R64 t.R
  G : R64 t.G
def stepS (s : St) (t : Tn) (z : Int) : St := updS (predS s t.Dt t.Q) z t.R t.G
def stepT (s : St) (t : Tn) (z : Int) : Bool := updT (predS s t.Dt t.Q) z t.R t.G
theorem stepS_ok {s : St} (h : s.Ok) (t : Tn) (z : Int) : (stepS s t z).Ok := updS_ok (predS_ok h _ _) _ _ _
/-- Step by step. -/
def runS (s : St) (t : Tn) (f : Nat → Int) : Nat → St
  | 0 => s
  | k + 1 => stepS (runS s t f k) t (f k)
def runN (s : St) (t : Tn) (f : Nat → Int) : Nat → Nat
  | 0 => 0
  | k + 1 => runN s t f k + (if stepT (runS s t f k) t (f k) then 1 else 0)
theorem runS_ok {s : St} (h : s.Ok) (t : Tn) (f : Nat → Int) : ∀ k, (runS s t f k).Ok
  | 0 => h
  | k + 1 => stepS_ok (runS_ok h t f k) t _
theorem runN_le (s : St) (t : Tn) (f : Nat → Int) : ∀ k, runN s t f k ≤ k
  | 0 => Nat.le_refl _
  | k + 1 => by have := runN_le s t f k; show runN s t f k + _ ≤ k + 1; split <;> omega
theorem runS_cut (s : St) (t : Tn) (f : Nat → Int) (a : Nat) : ∀ b, runS s t f (a + b) = runS (runS s t f a) t (fun i => f (a + i)) b
  | 0 => rfl
  | b + 1 => by show stepS (runS s t f (a + b)) t (f (a + b)) = _; rw [runS_cut s t f a b]; rfl
theorem runN_cut (s : St) (t : Tn) (f : Nat → Int) (a : Nat) : ∀ b, runN s t f (a + b) = runN s t f a + runN (runS s t f a) t (fun i => f (a + i)) b
  | 0 => rfl
  | b + 1 => by
    show runN s t f (a + b) + (if stepT (runS s t f (a + b)) t (f (a + b)) then 1 else 0) = _
    rw [runN_cut s t f a b, runS_cut s t f a b, Nat.add_assoc]; rfl
/-- What was bent stays bent. -/
theorem takeS_bent {s : St} (h : s.B = true) (y w : Int) : (takeS s y w).B = true := by simp [takeS, h]
theorem predS_bent {s : St} (h : s.B = true) (dt q : Int) : (predS s dt q).B = true := by simp [predS, h]
theorem updS_bent {s : St} (h : s.B = true) (z r gate : Int) : (updS s z r gate).B = true := by
  unfold updS; split
  · exact h
  · exact takeS_bent (by simp [bentU, h]) _ _
theorem runS_bent {s : St} (h : s.B = true) (t : Tn) (f : Nat → Int) : ∀ k, (runS s t f k).B = true
  | 0 => h
  | k + 1 => updS_bent (predS_bent (runS_bent h t f k) _ _) _ _ _

end Go.Proofs.YtngmeaaglogieabGreat

namespace Go.Proofs.YtngmeaaglogieabGreat

/-- How many of the first n are so. -/
def cn (p : Nat → Bool) : Nat → Nat
  | 0 => 0
  | n + 1 => cn p n + if p n then 1 else 0
theorem cn_le (p : Nat → Bool) (n : Nat) : cn p n ≤ n := by
  induction n with
  | zero => exact Nat.le_refl _
  | succ n ih => show cn p n + (if p n then 1 else 0) ≤ n + 1; split <;> omega
theorem cn_congr {p q : Nat → Bool} {n : Nat} (h : ∀ i, i < n → p i = q i) : cn p n = cn q n := by
  induction n with
  | zero => rfl
  | succ n ih => show cn p n + (if p n then 1 else 0) = cn q n + (if q n then 1 else 0); rw [ih (fun i hi => h i (by omega)), h n (by omega)]
theorem cn_mono {p q : Nat → Bool} {n : Nat} (h : ∀ i, i < n → p i = true → q i = true) : cn p n ≤ cn q n := by
  induction n with
  | zero => exact Nat.le_refl _
  | succ n ih =>
    show cn p n + (if p n then 1 else 0) ≤ cn q n + (if q n then 1 else 0)
    have := ih (fun i hi => h i (by omega))
    by_cases c : p n = true
    · rw [if_pos c, if_pos (h n (by omega) c)]; omega
    · rw [if_neg c]; omega
theorem cn_split (p : Nat → Bool) (a b : Nat) : cn p (a + b) = cn p a + cn (fun i => p (a + i)) b := by
  induction b with
  | zero => rfl
  | succ b ih =>
    show cn p (a + b) + (if p (a + b) then 1 else 0) = cn p a + (cn (fun i => p (a + i)) b + (if p (a + b) then 1 else 0))
    omega
theorem cn_all {p : Nat → Bool} {n : Nat} (h : ∀ i, i < n → p i = true) : cn p n = n := by
  induction n with
  | zero => rfl
  | succ n ih => show cn p n + (if p n then 1 else 0) = n + 1; rw [ih (fun i hi => h i (by omega)), if_pos (h n (by omega))]
theorem cn_none {p : Nat → Bool} {n : Nat} (h : ∀ i, i < n → p i = false) : cn p n = 0 := by
  induction n with
  | zero => rfl
  | succ n ih => show cn p n + (if p n then 1 else 0) = 0; rw [ih (fun i hi => h i (by omega)), h n (by omega)]; rfl
theorem cn_pos {p : Nat → Bool} {n : Nat} (h : 0 < cn p n) : ∃ i, i < n ∧ p i = true := by
  induction n with
  | zero => exact absurd h (Nat.lt_irrefl 0)
  | succ n ih =>
    by_cases c : p n = true
    · exact ⟨n, by omega, c⟩
    · have e : cn p (n + 1) = cn p n := by show cn p n + (if p n then 1 else 0) = _; rw [if_neg c]; rfl
      rw [e] at h
      obtain ⟨i, hi, hp⟩ := ih h
      exact ⟨i, by omega, hp⟩
theorem cn_add {p q r : Nat → Bool} {n : Nat} (h : ∀ i, i < n → ((p i = true ∧ q i = false ∧ r i = true) ∨ (p i = false ∧ q i = true ∧ r i = true) ∨ (p i = false ∧ q i = false ∧ r i = false))) : cn p n + cn q n = cn r n := by
  induction n with
  | zero => rfl
  | succ n ih =>
    show (cn p n + if p n then 1 else 0) + (cn q n + if q n then 1 else 0) = cn r n + if r n then 1 else 0
    have e := ih (fun i hi => h i (by omega))
    rcases h n (by omega) with ⟨h1, h2, h3⟩ | ⟨h1, h2, h3⟩ | ⟨h1, h2, h3⟩ <;> rw [h1, h2, h3] <;> simp <;> omega

/-- How many are less, how many are the same. -/
def cl (f : Nat → Int) (n : Nat) (v : Int) : Nat := cn (fun i => decide (f i < v)) n
def ce (f : Nat → Int) (n : Nat) (v : Int) : Nat := cn (fun i => decide (f i = v)) n
/-- The number of which k stand ahead, in order. -/
def IsRk (f : Nat → Int) (n k : Nat) (v : Int) : Prop := cl f n v ≤ k ∧ k < cl f n v + ce f n v
theorem cl_le (f : Nat → Int) (n : Nat) (v : Int) : cl f n v + ce f n v = cn (fun i => decide (f i ≤ v)) n := by
  refine cn_add (fun i _ => ?_)
  by_cases h1 : f i < v
  · exact Or.inl ⟨decide_eq_true h1, decide_eq_false (by omega), decide_eq_true (by omega)⟩
  · by_cases h2 : f i = v
    · exact Or.inr (Or.inl ⟨decide_eq_false h1, decide_eq_true h2, decide_eq_true (by omega)⟩)
    · exact Or.inr (Or.inr ⟨decide_eq_false h1, decide_eq_false h2, decide_eq_false (by omega)⟩)
theorem cl_step {f : Nat → Int} {n : Nat} {v u : Int} (h : v < u) : cl f n v + ce f n v ≤ cl f n u := by
  rw [cl_le]
  exact cn_mono (fun i _ hp => decide_eq_true (by have := of_decide_eq_true hp; omega))
theorem rk_mono {f : Nat → Int} {n k j : Nat} {v u : Int} (h : IsRk f n k v) (h' : IsRk f n j u) (hk : k ≤ j) : v ≤ u := by
  rcases Int.lt_or_le u v with c | c
  · have := cl_step (f := f) (n := n) c
    have h1 := h.1; have h2 := h'.2
    omega
  · exact c
theorem rk_one {f : Nat → Int} {n k : Nat} {v u : Int} (h : IsRk f n k v) (h' : IsRk f n k u) : v = u := by
  have := rk_mono h h' (Nat.le_refl _); have := rk_mono h' h (Nat.le_refl _); omega
theorem rk_mem {f : Nat → Int} {n k : Nat} {v : Int} (h : IsRk f n k v) : ∃ i, i < n ∧ f i = v := by
  have : 0 < ce f n v := by have := h.1; have := h.2; omega
  obtain ⟨i, hi, hp⟩ := cn_pos this
  exact ⟨i, hi, of_decide_eq_true hp⟩
theorem rk_congr {f g : Nat → Int} {n k : Nat} {v : Int} (e : ∀ i, i < n → f i = g i) (h : IsRk f n k v) : IsRk g n k v := by
  have e1 : cl f n v = cl g n v := cn_congr (fun i hi => by rw [e i hi])
  have e2 : ce f n v = ce g n v := cn_congr (fun i hi => by rw [e i hi])
  unfold IsRk at h ⊢
  rw [← e1, ← e2]; exact h
/-- At least from here on: not below. -/
theorem rk_ge {f : Nat → Int} {n k : Nat} {v u : Int} (h : IsRk f n k v) (hu : cl f n u ≤ k) : u ≤ v := by
  rcases Int.lt_or_le v u with c | c
  · have := cl_step (f := f) (n := n) c; have := h.2; omega
  · exact c
/-- At most up to here: not above. -/
theorem rk_le {f : Nat → Int} {n k : Nat} {v u : Int} (h : IsRk f n k v) (hu : k < cl f n u + ce f n u) : v ≤ u := by
  rcases Int.lt_or_le u v with c | c
  · have := cl_step (f := f) (n := n) c; have := h.1; omega
  · exact c

/-- The least of those of which there are enough, among the first m. -/
theorem rk_search {f : Nat → Int} {n k : Nat} (m : Nat) : (∃ i, i < m ∧ k < cl f n (f i) + ce f n (f i)) → ∃ i, i < m ∧ k < cl f n (f i) + ce f n (f i) ∧ ∀ j, j < m → k < cl f n (f j) + ce f n (f j) → f i ≤ f j := by
  induction m with
  | zero => rintro ⟨i, hi, _⟩; omega
  | succ m ih =>
    rintro ⟨i, hi, hk⟩
    by_cases c : ∃ i, i < m ∧ k < cl f n (f i) + ce f n (f i)
    · obtain ⟨a, ha, hka, hl⟩ := ih c
      by_cases d : k < cl f n (f m) + ce f n (f m) ∧ f m < f a
      · refine ⟨m, by omega, d.1, fun j hj hkj => ?_⟩
        by_cases e : j = m
        · subst e; exact Int.le_refl _
        · have := hl j (by omega) hkj; omega
      · refine ⟨a, by omega, hka, fun j hj hkj => ?_⟩
        by_cases e : j = m
        · subst e
          rcases Int.lt_or_le (f j) (f a) with x | x
          · exact absurd ⟨hkj, x⟩ d
          · exact x
        · exact hl j (by omega) hkj
    · have e : i = m := by
        by_cases e : i = m
        · exact e
        · exact absurd ⟨i, by omega, hk⟩ c
      subst e
      refine ⟨i, by omega, hk, fun j hj hkj => ?_⟩
      by_cases e : j = i
      · subst e; exact Int.le_refl _
      · exact absurd ⟨j, by omega, hkj⟩ c
/-- The greatest below a bound, among the first m. -/
theorem top_below {f : Nat → Int} {u : Int} (m : Nat) : (∃ i, i < m ∧ f i < u) → ∃ i, i < m ∧ f i < u ∧ ∀ j, j < m → f j < u → f j ≤ f i := by
  induction m with
  | zero => rintro ⟨i, hi, _⟩; omega
  | succ m ih =>
    rintro ⟨i, hi, hu⟩
    by_cases c : ∃ i, i < m ∧ f i < u
    · obtain ⟨a, ha, hua, hl⟩ := ih c
      by_cases d : f m < u ∧ f a < f m
      · refine ⟨m, by omega, d.1, fun j hj hju => ?_⟩
        by_cases e : j = m
        · subst e; exact Int.le_refl _
        · have := hl j (by omega) hju; omega
      · refine ⟨a, by omega, hua, fun j hj hju => ?_⟩
        by_cases e : j = m
        · subst e
          rcases Int.lt_or_le (f a) (f j) with x | x
          · exact absurd ⟨hju, x⟩ d
          · exact x
        · exact hl j (by omega) hju
    · have e : i = m := by
        by_cases e : i = m
        · exact e
        · exact absurd ⟨i, by omega, hu⟩ c
      subst e
      refine ⟨i, by omega, hu, fun j hj hju => ?_⟩
      by_cases e : j = i
      · subst e; exact Int.le_refl _
      · exact absurd ⟨j, by omega, hju⟩ c
/-- The greatest of all. -/
theorem top_all (f : Nat → Int) (m : Nat) (hm : 0 < m) : ∃ i, i < m ∧ ∀ j, j < m → f j ≤ f i := by
  induction m with
  | zero => omega
  | succ m ih =>
    rcases Nat.eq_zero_or_pos m with h | h
    · subst h; exact ⟨0, by omega, fun j hj => by rw [show j = 0 by omega]; exact Int.le_refl _⟩
    · obtain ⟨i, hi, hl⟩ := ih h
      by_cases c : f i ≤ f m
      · refine ⟨m, by omega, fun j hj => ?_⟩
        by_cases e : j = m
        · subst e; exact Int.le_refl _
        · have := hl j (by omega); omega
      · refine ⟨i, by omega, fun j hj => ?_⟩
        by_cases e : j = m
        · subst e; omega
        · exact hl j (by omega)
theorem rk_ex (f : Nat → Int) (n k : Nat) (hk : k < n) : ∃ i, i < n ∧ IsRk f n k (f i) := by
  obtain ⟨t, ht, htop⟩ := top_all f n (by omega)
  have full : cl f n (f t) + ce f n (f t) = n := by
    rw [cl_le]
    exact cn_all (fun i hi => decide_eq_true (htop i hi))
  obtain ⟨i, hi, hki, hl⟩ := rk_search (f := f) (n := n) (k := k) n ⟨t, ht, by omega⟩
  refine ⟨i, hi, ?_, hki⟩
  rcases Nat.eq_zero_or_pos (cl f n (f i)) with h0 | h0
  · omega
  · obtain ⟨j, hj, hp⟩ := cn_pos h0
    obtain ⟨a, ha, hau, hal⟩ := top_below (f := f) (u := f i) n ⟨j, hj, of_decide_eq_true hp⟩
    have e : cl f n (f i) ≤ cl f n (f a) + ce f n (f a) := by
      rw [cl_le]
      exact cn_mono (fun b hb hp => decide_eq_true (hal b hb (of_decide_eq_true hp)))
    rcases Nat.lt_or_ge k (cl f n (f a) + ce f n (f a)) with c | c
    · have := hl a ha c; omega
    · omega

/-- The middle: the least and the greatest third are taken away. -/
def IsMid (f : Nat → Int) (n : Nat) (m : Int) : Prop := ∃ a b, IsRk f n ((n - 1) / 3) a ∧ IsRk f n (n - 1 - (n - 1) / 3) b ∧ m = (a + b) / 2
theorem mid_one {f : Nat → Int} {n : Nat} {m m' : Int} (h : IsMid f n m) (h' : IsMid f n m') : m = m' := by
  obtain ⟨a, b, ha, hb, rfl⟩ := h
  obtain ⟨a', b', ha', hb', rfl⟩ := h'
  rw [rk_one ha ha', rk_one hb hb']
theorem mid_congr {f g : Nat → Int} {n : Nat} {m : Int} (e : ∀ i, i < n → f i = g i) (h : IsMid f n m) : IsMid g n m := by
  obtain ⟨a, b, ha, hb, rfl⟩ := h
  exact ⟨a, b, rk_congr e ha, rk_congr e hb, rfl⟩
theorem mid_ex (f : Nat → Int) (n : Nat) (hn : 0 < n) : ∃ m, IsMid f n m := by
  obtain ⟨i, _, hi⟩ := rk_ex f n ((n - 1) / 3) (by omega)
  obtain ⟨j, _, hj⟩ := rk_ex f n (n - 1 - (n - 1) / 3) (by omega)
  exact ⟨_, _, _, hi, hj, rfl⟩
/-- Ranks of numbers within bounds. -/
theorem mid_within {f : Nat → Int} {n : Nat} {m lo hi : Int} (h : IsMid f n m) (hb : ∀ i, i < n → lo ≤ f i ∧ f i ≤ hi) : lo ≤ m ∧ m ≤ hi := by
  obtain ⟨a, b, ha, hb', rfl⟩ := h
  obtain ⟨i, hi', rfl⟩ := rk_mem ha
  obtain ⟨j, hj, rfl⟩ := rk_mem hb'
  have := hb i hi'; have := hb j hj
  omega
/-- k lies and n others, the lies fewer than a third. -/
theorem mid_guards {f : Nat → Int} {n k : Nat} {m lo hi : Int} (h : IsMid f (k + n) m) (h3 : 3 * k < n + k) (hb : ∀ i, i < n → lo ≤ f (k + i) ∧ f (k + i) ≤ hi) : lo ≤ m ∧ m ≤ hi := by
  obtain ⟨a, b, ha, hb', rfl⟩ := h
  have hab := rk_mono ha hb' (by omega)
  have h1 : lo ≤ a := rk_ge ha (by
    have e : cl f (k + n) lo = cn (fun i => decide (f i < lo)) k + cn (fun i => decide (f (k + i) < lo)) n := cn_split _ k n
    have e2 : cn (fun i => decide (f (k + i) < lo)) n = 0 := cn_none (fun i hi' => decide_eq_false (by have := hb i hi'; omega))
    have e3 := cn_le (fun i => decide (f i < lo)) k
    omega)
  have h2 : b ≤ hi := rk_le hb' (by
    rw [cl_le]
    have e : cn (fun i => decide (f i ≤ hi)) (k + n) = cn (fun i => decide (f i ≤ hi)) k + cn (fun i => decide (f (k + i) ≤ hi)) n := cn_split _ k n
    have e2 : cn (fun i => decide (f (k + i) ≤ hi)) n = n := cn_all (fun i hi' => decide_eq_true (by have := hb i hi'; omega))
    omega)
  omega
/-- A list that is turned round. -/
theorem cn_round (p : Nat → Bool) (k l : Nat) (q : Nat → Bool) (h1 : ∀ i, i < l → q i = p (k + i)) (h2 : ∀ i, i < k → q (l + i) = p i) : cn q (l + k) = cn p (k + l) := by
  rw [cn_split q l k, cn_split p k l, cn_congr (p := q) (q := fun i => p (k + i)) h1, cn_congr (p := fun i => q (l + i)) (q := p) h2]
  omega
theorem rk_round {f g : Nat → Int} {k l j : Nat} {v : Int} (h1 : ∀ i, i < l → g i = f (k + i)) (h2 : ∀ i, i < k → g (l + i) = f i) (h : IsRk f (k + l) j v) : IsRk g (l + k) j v := by
  have e1 : cl g (l + k) v = cl f (k + l) v := cn_round _ k l _ (fun i hi => by rw [h1 i hi]) (fun i hi => by rw [h2 i hi])
  have e2 : ce g (l + k) v = ce f (k + l) v := cn_round _ k l _ (fun i hi => by rw [h1 i hi]) (fun i hi => by rw [h2 i hi])
  unfold IsRk at h ⊢
  rw [e1, e2]; exact h
theorem mid_round {f g : Nat → Int} {k l : Nat} {m : Int} (h1 : ∀ i, i < l → g i = f (k + i)) (h2 : ∀ i, i < k → g (l + i) = f i) (h : IsMid f (k + l) m) : IsMid g (l + k) m := by
  obtain ⟨a, b, ha, hb, rfl⟩ := h
  rw [show k + l = l + k by omega] at ha hb
  have ha' : IsRk f (k + l) ((l + k - 1) / 3) a := by rw [show k + l = l + k by omega]; exact ha
  have hb' : IsRk f (k + l) (l + k - 1 - (l + k - 1) / 3) b := by rw [show k + l = l + k by omega]; exact hb
  exact ⟨a, b, rk_round h1 h2 ha', rk_round h1 h2 hb', rfl⟩
/-- A list that is moved. -/
theorem rk_move {f g : Nat → Int} {n k : Nat} {v d : Int} (e : ∀ i, i < n → g i = f i + d) (h : IsRk f n k v) : IsRk g n k (v + d) := by
  have e1 : cl g n (v + d) = cl f n v := cn_congr (fun i hi => by rw [e i hi]; exact decide_eq_decide.2 (by omega))
  have e2 : ce g n (v + d) = ce f n v := cn_congr (fun i hi => by rw [e i hi]; exact decide_eq_decide.2 (by omega))
  unfold IsRk at h ⊢
  rw [e1, e2]; exact h
theorem mid_move {f g : Nat → Int} {n : Nat} {m d : Int} (e : ∀ i, i < n → g i = f i + d) (h : IsMid f n m) : IsMid g n (m + d) := by
  obtain ⟨a, b, ha, hb, rfl⟩ := h
  exact ⟨a + d, b + d, rk_move e ha, rk_move e hb, by omega⟩

/-- Four numbers, three of them good: where the second and the third lie. -/
theorem rk_four {f : Nat → Int} {a b x y z : Int} (h1 : IsRk f 4 1 a) (h2 : IsRk f 4 2 b)
    (c1 : cl f 4 x ≤ 1) (c2 : 2 ≤ cl f 4 y + ce f 4 y) (c3 : cl f 4 y ≤ 2) (c4 : 3 ≤ cl f 4 z + ce f 4 z) : x ≤ a ∧ a ≤ y ∧ y ≤ b ∧ b ≤ z :=
  ⟨rk_ge h1 c1, rk_le h1 (by omega), rk_ge h2 c3, rk_le h2 (by omega)⟩
/-- One if so. -/
def ind (p : Prop) [Decidable p] : Nat := if p then 1 else 0
theorem ind_le (p : Prop) [Decidable p] : ind p ≤ 1 := by unfold ind; split <;> omega
theorem ind_yes {p : Prop} [Decidable p] (h : p) : ind p = 1 := if_pos h
theorem ind_no {p : Prop} [Decidable p] (h : ¬ p) : ind p = 0 := if_neg h
theorem cn4 (p : Nat → Prop) [DecidablePred p] : cn (fun i => decide (p i)) 4 = ind (p 0) + ind (p 1) + ind (p 2) + ind (p 3) := by
  have e : ∀ i, (if decide (p i) = true then 1 else 0) = ind (p i) := fun i => by unfold ind; by_cases h : p i <;> simp [h]
  show (((0 + (if decide (p 0) = true then 1 else 0)) + (if decide (p 1) = true then 1 else 0)) + (if decide (p 2) = true then 1 else 0)) + (if decide (p 3) = true then 1 else 0) = _
  rw [e, e, e, e]; omega
theorem cl4 (f : Nat → Int) (v : Int) : cl f 4 v = ind (f 0 < v) + ind (f 1 < v) + ind (f 2 < v) + ind (f 3 < v) := cn4 (fun i => f i < v)
theorem cle4 (f : Nat → Int) (v : Int) : cl f 4 v + ce f 4 v = ind (f 0 ≤ v) + ind (f 1 ≤ v) + ind (f 2 ≤ v) + ind (f 3 ≤ v) := by rw [cl_le]; exact cn4 (fun i => f i ≤ v)
/-- Three numbers in order. -/
theorem sort3 (p q r : Int) : ∃ x y z, x ≤ y ∧ y ≤ z ∧ (x ≤ p ∧ x ≤ q ∧ x ≤ r) ∧ (p ≤ z ∧ q ≤ z ∧ r ≤ z) ∧ (x = p ∨ x = q ∨ x = r) ∧ (z = p ∨ z = q ∨ z = r) ∧
    2 ≤ ind (p ≤ y) + ind (q ≤ y) + ind (r ≤ y) ∧ ind (p < y) + ind (q < y) + ind (r < y) ≤ 1 := by
  have two : ∀ {a b c : Prop} [Decidable a] [Decidable b] [Decidable c], a → b → 2 ≤ ind a + ind b + ind c := fun ha hb => by rw [ind_yes ha, ind_yes hb]; omega
  have two' : ∀ {a b c : Prop} [Decidable a] [Decidable b] [Decidable c], a → c → 2 ≤ ind a + ind b + ind c := fun ha hb => by rw [ind_yes ha, ind_yes hb]; omega
  have two'' : ∀ {a b c : Prop} [Decidable a] [Decidable b] [Decidable c], b → c → 2 ≤ ind a + ind b + ind c := fun ha hb => by rw [ind_yes ha, ind_yes hb]; omega
  have one : ∀ {a b c : Prop} [Decidable a] [Decidable b] [Decidable c], ¬ a → ¬ b → ind a + ind b + ind c ≤ 1 := fun {a b c} _ _ _ ha hb => by rw [ind_no ha, ind_no hb]; have := ind_le c; omega
  have one' : ∀ {a b c : Prop} [Decidable a] [Decidable b] [Decidable c], ¬ a → ¬ c → ind a + ind b + ind c ≤ 1 := fun {a b c} _ _ _ ha hb => by rw [ind_no ha, ind_no hb]; have := ind_le b; omega
  have one'' : ∀ {a b c : Prop} [Decidable a] [Decidable b] [Decidable c], ¬ b → ¬ c → ind a + ind b + ind c ≤ 1 := fun {a b c} _ _ _ ha hb => by rw [ind_no ha, ind_no hb]; have := ind_le a; omega
  rcases Int.le_total p q with h1 | h1
  · rcases Int.le_total q r with h2 | h2
    · exact ⟨p, q, r, h1, h2, by omega, by omega, by omega, by omega, two (by omega) (by omega), one'' (by omega) (by omega)⟩
    · rcases Int.le_total p r with h3 | h3
      · exact ⟨p, r, q, h3, h2, by omega, by omega, by omega, by omega, two' (by omega) (by omega), one'' (by omega) (by omega)⟩
      · exact ⟨r, p, q, h3, h1, by omega, by omega, by omega, by omega, two' (by omega) (by omega), one (by omega) (by omega)⟩
  · rcases Int.le_total p r with h2 | h2
    · exact ⟨q, p, r, h1, h2, by omega, by omega, by omega, by omega, two (by omega) (by omega), one' (by omega) (by omega)⟩
    · rcases Int.le_total q r with h3 | h3
      · exact ⟨q, r, p, h3, h2, by omega, by omega, by omega, by omega, two'' (by omega) (by omega), one' (by omega) (by omega)⟩
      · exact ⟨r, q, p, h3, h1, by omega, by omega, by omega, by omega, two'' (by omega) (by omega), one (by omega) (by omega)⟩
/-- Four numbers, of which all but the j-th are told: the second and the third lie beside one that does not hang on the j-th. -/
theorem four_good (G : Nat → Int) (j : Nat) (hj : j < 4) : ∃ x y z, (∀ k, k < 4 → k ≠ j → x ≤ G k ∧ G k ≤ z) ∧ (∃ k, k < 4 ∧ k ≠ j ∧ x = G k) ∧ (∃ k, k < 4 ∧ k ≠ j ∧ z = G k) ∧
    ∀ (f : Nat → Int) (a b : Int), (∀ k, k < 4 → k ≠ j → f k = G k) → IsRk f 4 1 a → IsRk f 4 2 b → x ≤ a ∧ a ≤ y ∧ y ≤ b ∧ b ≤ z := by
  have : j = 0 ∨ j = 1 ∨ j = 2 ∨ j = 3 := by omega
  rcases this with rfl | rfl | rfl | rfl
  · obtain ⟨x, y, z, h1, h2, ⟨a1, a2, a3⟩, ⟨b1, b2, b3⟩, ex, ez, c2, c3⟩ := sort3 (G 1) (G 2) (G 3)
    refine ⟨x, y, z, fun k hk hn => ?_, ?_, ?_, fun f a b hf ha hb => ?_⟩
    · have : k = 1 ∨ k = 2 ∨ k = 3 := by omega
      rcases this with rfl | rfl | rfl <;> omega
    · rcases ex with e | e | e
      · exact ⟨1, by omega, by omega, e⟩
      · exact ⟨2, by omega, by omega, e⟩
      · exact ⟨3, by omega, by omega, e⟩
    · rcases ez with e | e | e
      · exact ⟨1, by omega, by omega, e⟩
      · exact ⟨2, by omega, by omega, e⟩
      · exact ⟨3, by omega, by omega, e⟩
    · refine rk_four ha hb ?_ ?_ ?_ ?_
      · rw [cl4, hf 1 (by omega) (by omega), hf 2 (by omega) (by omega), hf 3 (by omega) (by omega), ind_no (p := G 1 < x) (by omega), ind_no (p := G 2 < x) (by omega), ind_no (p := G 3 < x) (by omega)]
        have := ind_le (f 0 < x); omega
      · rw [cle4, hf 1 (by omega) (by omega), hf 2 (by omega) (by omega), hf 3 (by omega) (by omega)]; omega
      · rw [cl4, hf 1 (by omega) (by omega), hf 2 (by omega) (by omega), hf 3 (by omega) (by omega)]
        have := ind_le (f 0 < y); omega
      · rw [cle4, hf 1 (by omega) (by omega), hf 2 (by omega) (by omega), hf 3 (by omega) (by omega), ind_yes (p := G 1 ≤ z) (by omega), ind_yes (p := G 2 ≤ z) (by omega), ind_yes (p := G 3 ≤ z) (by omega)]; omega
  · obtain ⟨x, y, z, h1, h2, ⟨a1, a2, a3⟩, ⟨b1, b2, b3⟩, ex, ez, c2, c3⟩ := sort3 (G 0) (G 2) (G 3)
    refine ⟨x, y, z, fun k hk hn => ?_, ?_, ?_, fun f a b hf ha hb => ?_⟩
    · have : k = 0 ∨ k = 2 ∨ k = 3 := by omega
      rcases this with rfl | rfl | rfl <;> omega
    · rcases ex with e | e | e
      · exact ⟨0, by omega, by omega, e⟩
      · exact ⟨2, by omega, by omega, e⟩
      · exact ⟨3, by omega, by omega, e⟩
    · rcases ez with e | e | e
      · exact ⟨0, by omega, by omega, e⟩
      · exact ⟨2, by omega, by omega, e⟩
      · exact ⟨3, by omega, by omega, e⟩
    · refine rk_four ha hb ?_ ?_ ?_ ?_
      · rw [cl4, hf 0 (by omega) (by omega), hf 2 (by omega) (by omega), hf 3 (by omega) (by omega), ind_no (p := G 0 < x) (by omega), ind_no (p := G 2 < x) (by omega), ind_no (p := G 3 < x) (by omega)]
        have := ind_le (f 1 < x); omega
      · rw [cle4, hf 0 (by omega) (by omega), hf 2 (by omega) (by omega), hf 3 (by omega) (by omega)]; omega
      · rw [cl4, hf 0 (by omega) (by omega), hf 2 (by omega) (by omega), hf 3 (by omega) (by omega)]
        have := ind_le (f 1 < y); omega
      · rw [cle4, hf 0 (by omega) (by omega), hf 2 (by omega) (by omega), hf 3 (by omega) (by omega), ind_yes (p := G 0 ≤ z) (by omega), ind_yes (p := G 2 ≤ z) (by omega), ind_yes (p := G 3 ≤ z) (by omega)]; omega
  · obtain ⟨x, y, z, h1, h2, ⟨a1, a2, a3⟩, ⟨b1, b2, b3⟩, ex, ez, c2, c3⟩ := sort3 (G 0) (G 1) (G 3)
    refine ⟨x, y, z, fun k hk hn => ?_, ?_, ?_, fun f a b hf ha hb => ?_⟩
    · have : k = 0 ∨ k = 1 ∨ k = 3 := by omega
      rcases this with rfl | rfl | rfl <;> omega
    · rcases ex with e | e | e
      · exact ⟨0, by omega, by omega, e⟩
      · exact ⟨1, by omega, by omega, e⟩
      · exact ⟨3, by omega, by omega, e⟩
    · rcases ez with e | e | e
      · exact ⟨0, by omega, by omega, e⟩
      · exact ⟨1, by omega, by omega, e⟩
      · exact ⟨3, by omega, by omega, e⟩
    · refine rk_four ha hb ?_ ?_ ?_ ?_
      · rw [cl4, hf 0 (by omega) (by omega), hf 1 (by omega) (by omega), hf 3 (by omega) (by omega), ind_no (p := G 0 < x) (by omega), ind_no (p := G 1 < x) (by omega), ind_no (p := G 3 < x) (by omega)]
        have := ind_le (f 2 < x); omega
      · rw [cle4, hf 0 (by omega) (by omega), hf 1 (by omega) (by omega), hf 3 (by omega) (by omega)]; omega
      · rw [cl4, hf 0 (by omega) (by omega), hf 1 (by omega) (by omega), hf 3 (by omega) (by omega)]
        have := ind_le (f 2 < y); omega
      · rw [cle4, hf 0 (by omega) (by omega), hf 1 (by omega) (by omega), hf 3 (by omega) (by omega), ind_yes (p := G 0 ≤ z) (by omega), ind_yes (p := G 1 ≤ z) (by omega), ind_yes (p := G 3 ≤ z) (by omega)]; omega
  · obtain ⟨x, y, z, h1, h2, ⟨a1, a2, a3⟩, ⟨b1, b2, b3⟩, ex, ez, c2, c3⟩ := sort3 (G 0) (G 1) (G 2)
    refine ⟨x, y, z, fun k hk hn => ?_, ?_, ?_, fun f a b hf ha hb => ?_⟩
    · have : k = 0 ∨ k = 1 ∨ k = 2 := by omega
      rcases this with rfl | rfl | rfl <;> omega
    · rcases ex with e | e | e
      · exact ⟨0, by omega, by omega, e⟩
      · exact ⟨1, by omega, by omega, e⟩
      · exact ⟨2, by omega, by omega, e⟩
    · rcases ez with e | e | e
      · exact ⟨0, by omega, by omega, e⟩
      · exact ⟨1, by omega, by omega, e⟩
      · exact ⟨2, by omega, by omega, e⟩
    · refine rk_four ha hb ?_ ?_ ?_ ?_
      · rw [cl4, hf 0 (by omega) (by omega), hf 1 (by omega) (by omega), hf 2 (by omega) (by omega), ind_no (p := G 0 < x) (by omega), ind_no (p := G 1 < x) (by omega), ind_no (p := G 2 < x) (by omega)]
        have := ind_le (f 3 < x); omega
      · rw [cle4, hf 0 (by omega) (by omega), hf 1 (by omega) (by omega), hf 2 (by omega) (by omega)]; omega
      · rw [cl4, hf 0 (by omega) (by omega), hf 1 (by omega) (by omega), hf 2 (by omega) (by omega)]
        have := ind_le (f 3 < y); omega
      · rw [cle4, hf 0 (by omega) (by omega), hf 1 (by omega) (by omega), hf 2 (by omega) (by omega), ind_yes (p := G 0 ≤ z) (by omega), ind_yes (p := G 1 ≤ z) (by omega), ind_yes (p := G 2 ≤ z) (by omega)]; omega

end Go.Proofs.YtngmeaaglogieabGreat
