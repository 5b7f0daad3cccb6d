/- Joined: OpenRow, FilSpec, ClkSpec, MemSpec, VotSpec, AgrSpec, ClkSort, SumPlain, WireSpec, NodSpec. -/
import Derived.Test.YthimcecbgpamdaaGreatRows
import Derived.Test.YthimcecbgpamdaaGreatNear168
import Derived.Lib.SmallJoins
import Derived.OpenShut
import Derived.SizedLaws
import Derived.ChangeSlices
import Derived.Test.YthimcecbgpamdaaGreatNear170
import Derived.Test.YthimcecbgpamdaaGreatNear173
namespace Go.Proofs.YthimcecbgpamdaaGreat
open Go.ChangeShapes Go.WideShapes Go.ChangeAt Go.RowKit Go.Joins

/-- A slice of numbers that was handed in. -/
def ArgS (w : World) (ao : Option Addr) (len cap : Nat) (f : Nat → Int) : Prop :=
  ((ao = none ∧ len = 0 ∧ cap = 0) ∨ ∃ x, ao = some x ∧ ∀ i, i < len → w.cell? (x.add i) = some (.int .i64 (f i))) ∧ len * 8 ≤ 140737488351232 ∧ ∀ i, R64 (f i)
theorem ArgS.rds {w : World} {ao : Option Addr} {len cap : Nat} {f : Nat → Int} (h : ArgS w ao len cap f) : Rds w ao len f := by
  intro hl
  rcases h.1 with ⟨_, h0, _⟩ | ⟨x, rfl, hc⟩
  · omega
  · obtain ⟨b, o, spot⟩ := x
    have hs : spot = none := by simpa [Addr.add] using World.cell?_spot (hc 0 hl)
    subst hs
    exact ⟨b, o, rfl, fun i hi => by have := hc i hi; rw [Addr.add_lit] at this; exact this⟩
theorem ArgS.below {w w' : World} {ao : Option Addr} {len cap : Nat} {f : Nat → Int} (h : ArgS w ao len cap f) (k : Below w.heap.size w w') : ArgS w' ao len cap f := by
  refine ⟨?_, h.2⟩
  rcases h.1 with h | ⟨x, rfl, hc⟩
  · exact Or.inl h
  · exact Or.inr ⟨x, rfl, fun i hi => at_below (hc i hi) k⟩

theorem bytesInt : Tryz.prog.bytesOf 3 = 8 := by kernel_rfl
theorem cellsInt : Tryz.prog.cellsOf 3 = 1 := by kernel_rfl

section
variable {H : Type} {enc : TypeId × Value → H} {w : World} {base : Nat} {held : Bool}

set_option maxRecDepth 100000 in
theorem open_row {fuel : Nat} {v : Value} {x : DataW H × List MemPlace} (h : DataW.trod enc Tryz.prog w base (fun _ => true) held fuel 65 [v] = some x) (hsz : ∀ n ∈ x.1.weights Tryz.prog 65, n ≤ reachBytes) :
    ∃ ao len cap f, v = .slice ao len cap ∧ ArgS w ao len cap f := by
  rcases open_ints Tryz.underlying65 Tryz.underlying3 cellsInt h with ⟨hcs, _⟩ | ⟨a, len, cap, zs, hcs, _, hl, _, hz, hx, hcell, hwz⟩
  · simp at hcs
    exact ⟨none, 0, 0, fun _ => 0, hcs, Or.inl ⟨rfl, rfl, rfl⟩, by decide, fun _ => R64_nought⟩
  · simp at hcs
    have hz' : zs.length = cap := by simpa using hz
    have hb : zs.length * 8 ≤ reachBytes := by
      refine hsz _ ?_
      rw [hx]
      simp [DataW.weights, Tryz.underlying65, bytesInt, lits]
      left; omega
    refine ⟨some a, len, cap, fun i => zs.getD i 0, hcs, Or.inr ⟨a, rfl, fun i hi => hcell i (by omega)⟩, by unfold reachBytes at hb; omega, fun i => ?_⟩
    rcases Nat.lt_or_ge i zs.length with hi | hi
    · have e : zs.getD i 0 = zs[i] := by simp [List.getD, hi]
      show R64 (zs.getD i 0)
      rw [e]; exact R64.of_wf (hwz _ (List.getElem_mem hi))
    · have e : zs.getD i 0 = 0 := by simp [List.getD, hi]
      show R64 (zs.getD i 0)
      rw [e]; exact R64_nought
set_option maxRecDepth 100000 in
theorem open_rowArg {r : Reach} {b0 : Nat} {v : Value} {d : DataW H} {p : List MemPlace} (hv : Value.okWide Tryz.prog w r b0 65 v) (h : DataW.Trod enc Tryz.prog w base (fun _ => true) held 65 v d p) (hsz : ∀ n ∈ d.weights Tryz.prog 65, n ≤ reachBytes) :
    ∃ ao len cap f, v = .slice ao len cap ∧ ArgS w ao len cap f := by
  obtain ⟨ao, len, cap, rfl⟩ := okWide_slice Tryz.underlying65 hv
  obtain ⟨fuel, hf⟩ := h
  have hf' : DataW.trod enc Tryz.prog w base (fun _ => true) held fuel 65 [.slice ao len cap] = some (d, p) := hf
  exact open_row hf' hsz
set_option maxRecDepth 100000 in
theorem open_rowRoom {r : Reach} {b0 : Nat} {v : Value} {d : DataW H} {p : List MemPlace} (hv : Value.okWide Tryz.prog w r b0 65 v) (h : DataW.Trod enc Tryz.prog w base (fun _ => true) held 65 v d p) (hsz : ∀ n ∈ d.weights Tryz.prog 65, n ≤ reachBytes) :
    ∃ ao len cap f, v = .slice ao len cap ∧ ArgS w ao len cap f ∧ len ≤ cap := by
  obtain ⟨ao, len, cap, f, rfl, ha⟩ := open_rowArg hv h hsz
  refine ⟨ao, len, cap, f, rfl, ha, ?_⟩
  obtain ⟨fuel, hf⟩ := h
  have hf' : DataW.trod enc Tryz.prog w base (fun _ => true) held fuel 65 [.slice ao len cap] = some (d, p) := hf
  rcases open_ints Tryz.underlying65 Tryz.underlying3 cellsInt hf' with ⟨hcs, _⟩ | ⟨a, l, c, zs, hcs, _, hl, _⟩
  · simp at hcs
    omega
  · simp at hcs
    omega
end

end Go.Proofs.YthimcecbgpamdaaGreat

namespace Go.Proofs.YthimcecbgpamdaaGreat
open Go.RowKit

/-- A filter's state. -/
structure St where
  X : Int
  V : Int
  P00 : Int
  P01 : Int
  P11 : Int
  B : Bool
  M : Int
/-- All its numbers have 64 bits. -/
structure St.Ok (s : St) : Prop where
  X : R64 s.X
  V : R64 s.V
  P00 : R64 s.P00
  P01 : R64 s.P01
  P11 : R64 s.P11
  M : R64 s.M
/-- A sum, a difference, a product, stopped. -/
def adV (a b : Int) : Int := clampZ (a + b)
def sbC (a b : Int) : Int := clampZ (a - b)
def muV (a b : Int) : Int := clampZ (mulQ a b)
def adB (a b : Int) : Bool := bentZ (a + b)
def sbE (a b : Int) : Bool := bentZ (a - b)
def muB (a b : Int) : Bool := bentZ (mulQ a b)
theorem adV_R (a b : Int) : R64 (adV a b) := clampZ_R _
theorem sbC_R (a b : Int) : R64 (sbC a b) := clampZ_R _
theorem muV_R (a b : Int) : R64 (muV a b) := clampZ_R _

/-- The state a while later. -/
def predS (s : St) (dt q : Int) : St where
  X := adV s.X (muV s.V dt)
  V := s.V
  P00 := adV (adV (adV s.P00 (muV s.P01 dt)) (muV s.P01 dt)) (muV (muV s.P11 dt) dt)
  P01 := adV s.P01 (muV s.P11 dt)
  P11 := adV s.P11 q
  B := s.B || muB s.P01 dt || muB s.P11 dt || muB s.V dt || adB s.X (muV s.V dt) || adB s.P00 (muV s.P01 dt) || adB (adV s.P00 (muV s.P01 dt)) (muV s.P01 dt) || muB (muV s.P11 dt) dt ||
    adB (adV (adV s.P00 (muV s.P01 dt)) (muV s.P01 dt)) (muV (muV s.P11 dt) dt) || adB s.P01 (muV s.P11 dt) || adB s.P11 q
  M := s.M
theorem predS_ok {s : St} (h : s.Ok) (dt q : Int) : (predS s dt q).Ok := ⟨adV_R _ _, h.V, adV_R _ _, adV_R _ _, adV_R _ _, h.M⟩

/-- One more reading passed over. -/
def moreM (m : Int) : Int := wrap64 (m + 1)
/-- How far a reading is off, how unsure the two are together, whether it is passed over. -/
def offY (s : St) (z : Int) : Int := sbC z s.X
def offW (s : St) (r : Int) : Int := adV s.P00 r
def overB (s : St) (z r gate : Int) : Bool := decide (offW s r ≤ 0) || decide (muV gate (offW s r) < muV (offY s z) (offY s z))
/-- A reading that is y off is taken, where the state was bent x. -/
def takeS (s : St) (y w : Int) : St where
  X := adV s.X (muV (divV s.P00 w) y)
  V := adV s.V (muV (divV s.P01 w) y)
  P00 := sbC s.P00 (muV (divV s.P00 w) s.P00)
  P01 := sbC s.P01 (muV (divV s.P00 w) s.P01)
  P11 := sbC s.P11 (muV (divV s.P01 w) s.P01)
  B := s.B || divB s.P00 w || divB s.P01 w || muB (divV s.P00 w) y || adB s.X (muV (divV s.P00 w) y) || muB (divV s.P01 w) y || adB s.V (muV (divV s.P01 w) y) ||
    muB (divV s.P00 w) s.P00 || sbE s.P00 (muV (divV s.P00 w) s.P00) || muB (divV s.P00 w) s.P01 || sbE s.P01 (muV (divV s.P00 w) s.P01) || muB (divV s.P01 w) s.P01 || sbE s.P11 (muV (divV s.P01 w) s.P01)
  M := 0
/-- What the steps ahead of taking a reading bend. -/
def bentU (s : St) (z r gate : Int) : Bool := s.B || sbE z s.X || adB s.P00 r || muB (offY s z) (offY s z) || muB gate (offW s r)
def updS (s : St) (z r gate : Int) : St := if overB s z r gate then { s with M := moreM s.M } else takeS { s with B := bentU s z r gate } (offY s z) (offW s r)
def updT (s : St) (z r gate : Int) : Bool := !overB s z r gate
theorem moreM_R (m : Int) : R64 (moreM m) := by unfold moreM R64; unfold wrap64; omega
theorem updS_ok {s : St} (h : s.Ok) (z r gate : Int) : (updS s z r gate).Ok := by
  unfold updS; split
  · exact ⟨h.X, h.V, h.P00, h.P01, h.P11, moreM_R _⟩
  · exact ⟨adV_R _ _, adV_R _ _, sbC_R _ _, sbC_R _ _, sbC_R _ _, R64_nought⟩

/-- How a filter works. -/
structure Tn where
  Dt : Int
  Q : Int
  R : Int
  G : Int
structure Tn.Ok (t : Tn) : Prop where
  Dt : R64 t.Dt
  Q : R64 t.Q
  R : R64 t.R
  G : R64 t.G
def stepS (s : St) (t : Tn) (z : Int) : St := updS (predS s t.Dt t.Q) z t.R t.G
def stepT (s : St) (t : Tn) (z : Int) : Bool := updT (predS s t.Dt t.Q) z t.R t.G
theorem stepS_ok {s : St} (h : s.Ok) (t : Tn) (z : Int) : (stepS s t z).Ok := updS_ok (predS_ok h _ _) _ _ _
/-- Step by step. -/
def runS (s : St) (t : Tn) (f : Nat → Int) : Nat → St
  | 0 => s
  | k + 1 => stepS (runS s t f k) t (f k)
def runN (s : St) (t : Tn) (f : Nat → Int) : Nat → Nat
  | 0 => 0
  | k + 1 => runN s t f k + (if stepT (runS s t f k) t (f k) then 1 else 0)
theorem runS_ok {s : St} (h : s.Ok) (t : Tn) (f : Nat → Int) : ∀ k, (runS s t f k).Ok
  | 0 => h
  | k + 1 => stepS_ok (runS_ok h t f k) t _
theorem runN_le (s : St) (t : Tn) (f : Nat → Int) : ∀ k, runN s t f k ≤ k
  | 0 => Nat.le_refl _
  | k + 1 => by have := runN_le s t f k; show runN s t f k + _ ≤ k + 1; split <;> omega
theorem runS_cut (s : St) (t : Tn) (f : Nat → Int) (a : Nat) : ∀ b, runS s t f (a + b) = runS (runS s t f a) t (fun i => f (a + i)) b
  | 0 => rfl
  | b + 1 => by show stepS (runS s t f (a + b)) t (f (a + b)) = _; rw [runS_cut s t f a b]; rfl
theorem runN_cut (s : St) (t : Tn) (f : Nat → Int) (a : Nat) : ∀ b, runN s t f (a + b) = runN s t f a + runN (runS s t f a) t (fun i => f (a + i)) b
  | 0 => rfl
  | b + 1 => by
    show runN s t f (a + b) + (if stepT (runS s t f (a + b)) t (f (a + b)) then 1 else 0) = _
    rw [runN_cut s t f a b, runS_cut s t f a b, Nat.add_assoc]; rfl
/-- What was bent stays bent. -/
theorem takeS_bent {s : St} (h : s.B = true) (y w : Int) : (takeS s y w).B = true := by simp [takeS, h]
theorem predS_bent {s : St} (h : s.B = true) (dt q : Int) : (predS s dt q).B = true := by simp [predS, h]
theorem updS_bent {s : St} (h : s.B = true) (z r gate : Int) : (updS s z r gate).B = true := by
  unfold updS; split
  · exact h
  · exact takeS_bent (by simp [bentU, h]) _ _
theorem runS_bent {s : St} (h : s.B = true) (t : Tn) (f : Nat → Int) : ∀ k, (runS s t f k).B = true
  | 0 => h
  | k + 1 => updS_bent (predS_bent (runS_bent h t f k) _ _) _ _ _

end Go.Proofs.YthimcecbgpamdaaGreat

namespace Go.Proofs.YthimcecbgpamdaaGreat

/-- How many of the first n are so. -/
def cn (p : Nat → Bool) : Nat → Nat
  | 0 => 0
  | n + 1 => cn p n + if p n then 1 else 0
theorem cn_le (p : Nat → Bool) (n : Nat) : cn p n ≤ n := by
  induction n with
  | zero => exact Nat.le_refl _
  | succ n ih => show cn p n + (if p n then 1 else 0) ≤ n + 1; split <;> omega
theorem cn_congr {p q : Nat → Bool} {n : Nat} (h : ∀ i, i < n → p i = q i) : cn p n = cn q n := by
  induction n with
  | zero => rfl
  | succ n ih => show cn p n + (if p n then 1 else 0) = cn q n + (if q n then 1 else 0); rw [ih (fun i hi => h i (by omega)), h n (by omega)]
theorem cn_mono {p q : Nat → Bool} {n : Nat} (h : ∀ i, i < n → p i = true → q i = true) : cn p n ≤ cn q n := by
  induction n with
  | zero => exact Nat.le_refl _
  | succ n ih =>
    show cn p n + (if p n then 1 else 0) ≤ cn q n + (if q n then 1 else 0)
    have := ih (fun i hi => h i (by omega))
    by_cases c : p n = true
    · rw [if_pos c, if_pos (h n (by omega) c)]; omega
    · rw [if_neg c]; omega
theorem cn_split (p : Nat → Bool) (a b : Nat) : cn p (a + b) = cn p a + cn (fun i => p (a + i)) b := by
  induction b with
  | zero => rfl
  | succ b ih =>
    show cn p (a + b) + (if p (a + b) then 1 else 0) = cn p a + (cn (fun i => p (a + i)) b + (if p (a + b) then 1 else 0))
    omega
theorem cn_all {p : Nat → Bool} {n : Nat} (h : ∀ i, i < n → p i = true) : cn p n = n := by
  induction n with
  | zero => rfl
  | succ n ih => show cn p n + (if p n then 1 else 0) = n + 1; rw [ih (fun i hi => h i (by omega)), if_pos (h n (by omega))]
theorem cn_none {p : Nat → Bool} {n : Nat} (h : ∀ i, i < n → p i = false) : cn p n = 0 := by
  induction n with
  | zero => rfl
  | succ n ih => show cn p n + (if p n then 1 else 0) = 0; rw [ih (fun i hi => h i (by omega)), h n (by omega)]; rfl
theorem cn_pos {p : Nat → Bool} {n : Nat} (h : 0 < cn p n) : ∃ i, i < n ∧ p i = true := by
  induction n with
  | zero => exact absurd h (Nat.lt_irrefl 0)
  | succ n ih =>
    by_cases c : p n = true
    · exact ⟨n, by omega, c⟩
    · have e : cn p (n + 1) = cn p n := by show cn p n + (if p n then 1 else 0) = _; rw [if_neg c]; rfl
      rw [e] at h
      obtain ⟨i, hi, hp⟩ := ih h
      exact ⟨i, by omega, hp⟩
theorem cn_add {p q r : Nat → Bool} {n : Nat} (h : ∀ i, i < n → ((p i = true ∧ q i = false ∧ r i = true) ∨ (p i = false ∧ q i = true ∧ r i = true) ∨ (p i = false ∧ q i = false ∧ r i = false))) : cn p n + cn q n = cn r n := by
  induction n with
  | zero => rfl
  | succ n ih =>
    show (cn p n + if p n then 1 else 0) + (cn q n + if q n then 1 else 0) = cn r n + if r n then 1 else 0
    have e := ih (fun i hi => h i (by omega))
    rcases h n (by omega) with ⟨h1, h2, h3⟩ | ⟨h1, h2, h3⟩ | ⟨h1, h2, h3⟩ <;> rw [h1, h2, h3] <;> simp <;> omega

/-- How many are less, how many are the same. -/
def cl (f : Nat → Int) (n : Nat) (v : Int) : Nat := cn (fun i => decide (f i < v)) n
def ce (f : Nat → Int) (n : Nat) (v : Int) : Nat := cn (fun i => decide (f i = v)) n
/-- The number of which k stand ahead, in order. -/
def IsRk (f : Nat → Int) (n k : Nat) (v : Int) : Prop := cl f n v ≤ k ∧ k < cl f n v + ce f n v
theorem cl_le (f : Nat → Int) (n : Nat) (v : Int) : cl f n v + ce f n v = cn (fun i => decide (f i ≤ v)) n := by
  refine cn_add (fun i _ => ?_)
  by_cases h1 : f i < v
  · exact Or.inl ⟨decide_eq_true h1, decide_eq_false (by omega), decide_eq_true (by omega)⟩
  · by_cases h2 : f i = v
    · exact Or.inr (Or.inl ⟨decide_eq_false h1, decide_eq_true h2, decide_eq_true (by omega)⟩)
    · exact Or.inr (Or.inr ⟨decide_eq_false h1, decide_eq_false h2, decide_eq_false (by omega)⟩)
theorem cl_step {f : Nat → Int} {n : Nat} {v u : Int} (h : v < u) : cl f n v + ce f n v ≤ cl f n u := by
  rw [cl_le]
  exact cn_mono (fun i _ hp => decide_eq_true (by have := of_decide_eq_true hp; omega))
theorem rk_mono {f : Nat → Int} {n k j : Nat} {v u : Int} (h : IsRk f n k v) (h' : IsRk f n j u) (hk : k ≤ j) : v ≤ u := by
  rcases Int.lt_or_le u v with c | c
  · have := cl_step (f := f) (n := n) c
    have h1 := h.1; have h2 := h'.2
    omega
  · exact c
theorem rk_one {f : Nat → Int} {n k : Nat} {v u : Int} (h : IsRk f n k v) (h' : IsRk f n k u) : v = u := by
  have := rk_mono h h' (Nat.le_refl _); have := rk_mono h' h (Nat.le_refl _); omega
theorem rk_mem {f : Nat → Int} {n k : Nat} {v : Int} (h : IsRk f n k v) : ∃ i, i < n ∧ f i = v := by
  have : 0 < ce f n v := by have := h.1; have := h.2; omega
  obtain ⟨i, hi, hp⟩ := cn_pos this
  exact ⟨i, hi, of_decide_eq_true hp⟩
theorem rk_congr {f g : Nat → Int} {n k : Nat} {v : Int} (e : ∀ i, i < n → f i = g i) (h : IsRk f n k v) : IsRk g n k v := by
  have e1 : cl f n v = cl g n v := cn_congr (fun i hi => by rw [e i hi])
  have e2 : ce f n v = ce g n v := cn_congr (fun i hi => by rw [e i hi])
  unfold IsRk at h ⊢
  rw [← e1, ← e2]; exact h
/-- At least from here on: not below. -/
theorem rk_ge {f : Nat → Int} {n k : Nat} {v u : Int} (h : IsRk f n k v) (hu : cl f n u ≤ k) : u ≤ v := by
  rcases Int.lt_or_le v u with c | c
  · have := cl_step (f := f) (n := n) c; have := h.2; omega
  · exact c
/-- At most up to here: not above. -/
theorem rk_le {f : Nat → Int} {n k : Nat} {v u : Int} (h : IsRk f n k v) (hu : k < cl f n u + ce f n u) : v ≤ u := by
  rcases Int.lt_or_le u v with c | c
  · have := cl_step (f := f) (n := n) c; have := h.1; omega
  · exact c

/-- The least of those of which there are enough, among the first m. -/
theorem rk_search {f : Nat → Int} {n k : Nat} (m : Nat) : (∃ i, i < m ∧ k < cl f n (f i) + ce f n (f i)) → ∃ i, i < m ∧ k < cl f n (f i) + ce f n (f i) ∧ ∀ j, j < m → k < cl f n (f j) + ce f n (f j) → f i ≤ f j := by
  induction m with
  | zero => rintro ⟨i, hi, _⟩; omega
  | succ m ih =>
    rintro ⟨i, hi, hk⟩
    by_cases c : ∃ i, i < m ∧ k < cl f n (f i) + ce f n (f i)
    · obtain ⟨a, ha, hka, hl⟩ := ih c
      by_cases d : k < cl f n (f m) + ce f n (f m) ∧ f m < f a
      · refine ⟨m, by omega, d.1, fun j hj hkj => ?_⟩
        by_cases e : j = m
        · subst e; exact Int.le_refl _
        · have := hl j (by omega) hkj; omega
      · refine ⟨a, by omega, hka, fun j hj hkj => ?_⟩
        by_cases e : j = m
        · subst e
          rcases Int.lt_or_le (f j) (f a) with x | x
          · exact absurd ⟨hkj, x⟩ d
          · exact x
        · exact hl j (by omega) hkj
    · have e : i = m := by
        by_cases e : i = m
        · exact e
        · exact absurd ⟨i, by omega, hk⟩ c
      subst e
      refine ⟨i, by omega, hk, fun j hj hkj => ?_⟩
      by_cases e : j = i
      · subst e; exact Int.le_refl _
      · exact absurd ⟨j, by omega, hkj⟩ c
/-- The greatest below a bound, among the first m. -/
theorem top_below {f : Nat → Int} {u : Int} (m : Nat) : (∃ i, i < m ∧ f i < u) → ∃ i, i < m ∧ f i < u ∧ ∀ j, j < m → f j < u → f j ≤ f i := by
  induction m with
  | zero => rintro ⟨i, hi, _⟩; omega
  | succ m ih =>
    rintro ⟨i, hi, hu⟩
    by_cases c : ∃ i, i < m ∧ f i < u
    · obtain ⟨a, ha, hua, hl⟩ := ih c
      by_cases d : f m < u ∧ f a < f m
      · refine ⟨m, by omega, d.1, fun j hj hju => ?_⟩
        by_cases e : j = m
        · subst e; exact Int.le_refl _
        · have := hl j (by omega) hju; omega
      · refine ⟨a, by omega, hua, fun j hj hju => ?_⟩
        by_cases e : j = m
        · subst e
          rcases Int.lt_or_le (f a) (f j) with x | x
          · exact absurd ⟨hju, x⟩ d
          · exact x
        · exact hl j (by omega) hju
    · have e : i = m := by
        by_cases e : i = m
        · exact e
        · exact absurd ⟨i, by omega, hu⟩ c
      subst e
      refine ⟨i, by omega, hu, fun j hj hju => ?_⟩
      by_cases e : j = i
      · subst e; exact Int.le_refl _
      · exact absurd ⟨j, by omega, hju⟩ c
/-- The greatest of all. -/
theorem top_all (f : Nat → Int) (m : Nat) (hm : 0 < m) : ∃ i, i < m ∧ ∀ j, j < m → f j ≤ f i := by
  induction m with
  | zero => omega
  | succ m ih =>
    rcases Nat.eq_zero_or_pos m with h | h
    · subst h; exact ⟨0, by omega, fun j hj => by rw [show j = 0 by omega]; exact Int.le_refl _⟩
    · obtain ⟨i, hi, hl⟩ := ih h
      by_cases c : f i ≤ f m
      · refine ⟨m, by omega, fun j hj => ?_⟩
        by_cases e : j = m
        · subst e; exact Int.le_refl _
        · have := hl j (by omega); omega
      · refine ⟨i, by omega, fun j hj => ?_⟩
        by_cases e : j = m
        · subst e; omega
        · exact hl j (by omega)
theorem rk_ex (f : Nat → Int) (n k : Nat) (hk : k < n) : ∃ i, i < n ∧ IsRk f n k (f i) := by
  obtain ⟨t, ht, htop⟩ := top_all f n (by omega)
  have full : cl f n (f t) + ce f n (f t) = n := by
    rw [cl_le]
    exact cn_all (fun i hi => decide_eq_true (htop i hi))
  obtain ⟨i, hi, hki, hl⟩ := rk_search (f := f) (n := n) (k := k) n ⟨t, ht, by omega⟩
  refine ⟨i, hi, ?_, hki⟩
  rcases Nat.eq_zero_or_pos (cl f n (f i)) with h0 | h0
  · omega
  · obtain ⟨j, hj, hp⟩ := cn_pos h0
    obtain ⟨a, ha, hau, hal⟩ := top_below (f := f) (u := f i) n ⟨j, hj, of_decide_eq_true hp⟩
    have e : cl f n (f i) ≤ cl f n (f a) + ce f n (f a) := by
      rw [cl_le]
      exact cn_mono (fun b hb hp => decide_eq_true (hal b hb (of_decide_eq_true hp)))
    rcases Nat.lt_or_ge k (cl f n (f a) + ce f n (f a)) with c | c
    · have := hl a ha c; omega
    · omega

/-- The middle: the least and the greatest third are taken away. -/
def IsMid (f : Nat → Int) (n : Nat) (m : Int) : Prop := ∃ a b, IsRk f n ((n - 1) / 3) a ∧ IsRk f n (n - 1 - (n - 1) / 3) b ∧ m = (a + b) / 2
theorem mid_one {f : Nat → Int} {n : Nat} {m m' : Int} (h : IsMid f n m) (h' : IsMid f n m') : m = m' := by
  obtain ⟨a, b, ha, hb, rfl⟩ := h
  obtain ⟨a', b', ha', hb', rfl⟩ := h'
  rw [rk_one ha ha', rk_one hb hb']
theorem mid_congr {f g : Nat → Int} {n : Nat} {m : Int} (e : ∀ i, i < n → f i = g i) (h : IsMid f n m) : IsMid g n m := by
  obtain ⟨a, b, ha, hb, rfl⟩ := h
  exact ⟨a, b, rk_congr e ha, rk_congr e hb, rfl⟩
theorem mid_ex (f : Nat → Int) (n : Nat) (hn : 0 < n) : ∃ m, IsMid f n m := by
  obtain ⟨i, _, hi⟩ := rk_ex f n ((n - 1) / 3) (by omega)
  obtain ⟨j, _, hj⟩ := rk_ex f n (n - 1 - (n - 1) / 3) (by omega)
  exact ⟨_, _, _, hi, hj, rfl⟩
/-- Ranks of numbers within bounds. -/
theorem mid_within {f : Nat → Int} {n : Nat} {m lo hi : Int} (h : IsMid f n m) (hb : ∀ i, i < n → lo ≤ f i ∧ f i ≤ hi) : lo ≤ m ∧ m ≤ hi := by
  obtain ⟨a, b, ha, hb', rfl⟩ := h
  obtain ⟨i, hi', rfl⟩ := rk_mem ha
  obtain ⟨j, hj, rfl⟩ := rk_mem hb'
  have := hb i hi'; have := hb j hj
  omega
/-- k lies and n others, the lies fewer than a third. -/
theorem mid_guards {f : Nat → Int} {n k : Nat} {m lo hi : Int} (h : IsMid f (k + n) m) (h3 : 3 * k < n + k) (hb : ∀ i, i < n → lo ≤ f (k + i) ∧ f (k + i) ≤ hi) : lo ≤ m ∧ m ≤ hi := by
  obtain ⟨a, b, ha, hb', rfl⟩ := h
  have hab := rk_mono ha hb' (by omega)
  have h1 : lo ≤ a := rk_ge ha (by
    have e : cl f (k + n) lo = cn (fun i => decide (f i < lo)) k + cn (fun i => decide (f (k + i) < lo)) n := cn_split _ k n
    have e2 : cn (fun i => decide (f (k + i) < lo)) n = 0 := cn_none (fun i hi' => decide_eq_false (by have := hb i hi'; omega))
    have e3 := cn_le (fun i => decide (f i < lo)) k
    omega)
  have h2 : b ≤ hi := rk_le hb' (by
    rw [cl_le]
    have e : cn (fun i => decide (f i ≤ hi)) (k + n) = cn (fun i => decide (f i ≤ hi)) k + cn (fun i => decide (f (k + i) ≤ hi)) n := cn_split _ k n
    have e2 : cn (fun i => decide (f (k + i) ≤ hi)) n = n := cn_all (fun i hi' => decide_eq_true (by have := hb i hi'; omega))
    omega)
  omega
/-- A list that is turned round. -/
theorem cn_round (p : Nat → Bool) (k l : Nat) (q : Nat → Bool) (h1 : ∀ i, i < l → q i = p (k + i)) (h2 : ∀ i, i < k → q (l + i) = p i) : cn q (l + k) = cn p (k + l) := by
  rw [cn_split q l k, cn_split p k l, cn_congr (p := q) (q := fun i => p (k + i)) h1, cn_congr (p := fun i => q (l + i)) (q := p) h2]
  omega
theorem rk_round {f g : Nat → Int} {k l j : Nat} {v : Int} (h1 : ∀ i, i < l → g i = f (k + i)) (h2 : ∀ i, i < k → g (l + i) = f i) (h : IsRk f (k + l) j v) : IsRk g (l + k) j v := by
  have e1 : cl g (l + k) v = cl f (k + l) v := cn_round _ k l _ (fun i hi => by rw [h1 i hi]) (fun i hi => by rw [h2 i hi])
  have e2 : ce g (l + k) v = ce f (k + l) v := cn_round _ k l _ (fun i hi => by rw [h1 i hi]) (fun i hi => by rw [h2 i hi])
  unfold IsRk at h ⊢
  rw [e1, e2]; exact h
theorem mid_round {f g : Nat → Int} {k l : Nat} {m : Int} (h1 : ∀ i, i < l → g i = f (k + i)) (h2 : ∀ i, i < k → g (l + i) = f i) (h : IsMid f (k + l) m) : IsMid g (l + k) m := by
  obtain ⟨a, b, ha, hb, rfl⟩ := h
  rw [show k + l = l + k by omega] at ha hb
  have ha' : IsRk f (k + l) ((l + k - 1) / 3) a := by rw [show k + l = l + k by omega]; exact ha
  have hb' : IsRk f (k + l) (l + k - 1 - (l + k - 1) / 3) b := by rw [show k + l = l + k by omega]; exact hb
  exact ⟨a, b, rk_round h1 h2 ha', rk_round h1 h2 hb', rfl⟩
/-- A list that is moved. -/
theorem rk_move {f g : Nat → Int} {n k : Nat} {v d : Int} (e : ∀ i, i < n → g i = f i + d) (h : IsRk f n k v) : IsRk g n k (v + d) := by
  have e1 : cl g n (v + d) = cl f n v := cn_congr (fun i hi => by rw [e i hi]; exact decide_eq_decide.2 (by omega))
  have e2 : ce g n (v + d) = ce f n v := cn_congr (fun i hi => by rw [e i hi]; exact decide_eq_decide.2 (by omega))
  unfold IsRk at h ⊢
  rw [e1, e2]; exact h
theorem mid_move {f g : Nat → Int} {n : Nat} {m d : Int} (e : ∀ i, i < n → g i = f i + d) (h : IsMid f n m) : IsMid g n (m + d) := by
  obtain ⟨a, b, ha, hb, rfl⟩ := h
  exact ⟨a + d, b + d, rk_move e ha, rk_move e hb, by omega⟩

/-- Four numbers, three of them good: where the second and the third lie. -/
theorem rk_four {f : Nat → Int} {a b x y z : Int} (h1 : IsRk f 4 1 a) (h2 : IsRk f 4 2 b)
    (c1 : cl f 4 x ≤ 1) (c2 : 2 ≤ cl f 4 y + ce f 4 y) (c3 : cl f 4 y ≤ 2) (c4 : 3 ≤ cl f 4 z + ce f 4 z) : x ≤ a ∧ a ≤ y ∧ y ≤ b ∧ b ≤ z :=
  ⟨rk_ge h1 c1, rk_le h1 (by omega), rk_ge h2 c3, rk_le h2 (by omega)⟩
/-- One if so. -/
def ind (p : Prop) [Decidable p] : Nat := if p then 1 else 0
theorem ind_le (p : Prop) [Decidable p] : ind p ≤ 1 := by unfold ind; split <;> omega
theorem ind_yes {p : Prop} [Decidable p] (h : p) : ind p = 1 := if_pos h
theorem ind_no {p : Prop} [Decidable p] (h : ¬ p) : ind p = 0 := if_neg h
theorem cn4 (p : Nat → Prop) [DecidablePred p] : cn (fun i => decide (p i)) 4 = ind (p 0) + ind (p 1) + ind (p 2) + ind (p 3) := by
  have e : ∀ i, (if decide (p i) = true then 1 else 0) = ind (p i) := fun i => by unfold ind; by_cases h : p i <;> simp [h]
  show (((0 + (if decide (p 0) = true then 1 else 0)) + (if decide (p 1) = true then 1 else 0)) + (if decide (p 2) = true then 1 else 0)) + (if decide (p 3) = true then 1 else 0) = _
  rw [e, e, e, e]; omega
theorem cl4 (f : Nat → Int) (v : Int) : cl f 4 v = ind (f 0 < v) + ind (f 1 < v) + ind (f 2 < v) + ind (f 3 < v) := cn4 (fun i => f i < v)
theorem cle4 (f : Nat → Int) (v : Int) : cl f 4 v + ce f 4 v = ind (f 0 ≤ v) + ind (f 1 ≤ v) + ind (f 2 ≤ v) + ind (f 3 ≤ v) := by rw [cl_le]; exact cn4 (fun i => f i ≤ v)
/-- Three numbers in order. -/
theorem sort3 (p q r : Int) : ∃ x y z, x ≤ y ∧ y ≤ z ∧ (x ≤ p ∧ x ≤ q ∧ x ≤ r) ∧ (p ≤ z ∧ q ≤ z ∧ r ≤ z) ∧ (x = p ∨ x = q ∨ x = r) ∧ (z = p ∨ z = q ∨ z = r) ∧
    2 ≤ ind (p ≤ y) + ind (q ≤ y) + ind (r ≤ y) ∧ ind (p < y) + ind (q < y) + ind (r < y) ≤ 1 := by
  have two : ∀ {a b c : Prop} [Decidable a] [Decidable b] [Decidable c], a → b → 2 ≤ ind a + ind b + ind c := fun ha hb => by rw [ind_yes ha, ind_yes hb]; omega
  have two' : ∀ {a b c : Prop} [Decidable a] [Decidable b] [Decidable c], a → c → 2 ≤ ind a + ind b + ind c := fun ha hb => by rw [ind_yes ha, ind_yes hb]; omega
  have two'' : ∀ {a b c : Prop} [Decidable a] [Decidable b] [Decidable c], b → c → 2 ≤ ind a + ind b + ind c := fun ha hb => by rw [ind_yes ha, ind_yes hb]; omega
  have one : ∀ {a b c : Prop} [Decidable a] [Decidable b] [Decidable c], ¬ a → ¬ b → ind a + ind b + ind c ≤ 1 := fun {a b c} _ _ _ ha hb => by rw [ind_no ha, ind_no hb]; have := ind_le c; omega
  have one' : ∀ {a b c : Prop} [Decidable a] [Decidable b] [Decidable c], ¬ a → ¬ c → ind a + ind b + ind c ≤ 1 := fun {a b c} _ _ _ ha hb => by rw [ind_no ha, ind_no hb]; have := ind_le b; omega
  have one'' : ∀ {a b c : Prop} [Decidable a] [Decidable b] [Decidable c], ¬ b → ¬ c → ind a + ind b + ind c ≤ 1 := fun {a b c} _ _ _ ha hb => by rw [ind_no ha, ind_no hb]; have := ind_le a; omega
  rcases Int.le_total p q with h1 | h1
  · rcases Int.le_total q r with h2 | h2
    · exact ⟨p, q, r, h1, h2, by omega, by omega, by omega, by omega, two (by omega) (by omega), one'' (by omega) (by omega)⟩
    · rcases Int.le_total p r with h3 | h3
      · exact ⟨p, r, q, h3, h2, by omega, by omega, by omega, by omega, two' (by omega) (by omega), one'' (by omega) (by omega)⟩
      · exact ⟨r, p, q, h3, h1, by omega, by omega, by omega, by omega, two' (by omega) (by omega), one (by omega) (by omega)⟩
  · rcases Int.le_total p r with h2 | h2
    · exact ⟨q, p, r, h1, h2, by omega, by omega, by omega, by omega, two (by omega) (by omega), one' (by omega) (by omega)⟩
    · rcases Int.le_total q r with h3 | h3
      · exact ⟨q, r, p, h3, h2, by omega, by omega, by omega, by omega, two'' (by omega) (by omega), one' (by omega) (by omega)⟩
      · exact ⟨r, q, p, h3, h1, by omega, by omega, by omega, by omega, two'' (by omega) (by omega), one (by omega) (by omega)⟩
/-- Four numbers, of which all but the j-th are told: the second and the third lie beside one that does not hang on the j-th. -/
theorem four_good (G : Nat → Int) (j : Nat) (hj : j < 4) : ∃ x y z, (∀ k, k < 4 → k ≠ j → x ≤ G k ∧ G k ≤ z) ∧ (∃ k, k < 4 ∧ k ≠ j ∧ x = G k) ∧ (∃ k, k < 4 ∧ k ≠ j ∧ z = G k) ∧
    ∀ (f : Nat → Int) (a b : Int), (∀ k, k < 4 → k ≠ j → f k = G k) → IsRk f 4 1 a → IsRk f 4 2 b → x ≤ a ∧ a ≤ y ∧ y ≤ b ∧ b ≤ z := by
  have : j = 0 ∨ j = 1 ∨ j = 2 ∨ j = 3 := by omega
  rcases this with rfl | rfl | rfl | rfl
  · obtain ⟨x, y, z, h1, h2, ⟨a1, a2, a3⟩, ⟨b1, b2, b3⟩, ex, ez, c2, c3⟩ := sort3 (G 1) (G 2) (G 3)
    refine ⟨x, y, z, fun k hk hn => ?_, ?_, ?_, fun f a b hf ha hb => ?_⟩
    · have : k = 1 ∨ k = 2 ∨ k = 3 := by omega
      rcases this with rfl | rfl | rfl <;> omega
    · rcases ex with e | e | e
      · exact ⟨1, by omega, by omega, e⟩
      · exact ⟨2, by omega, by omega, e⟩
      · exact ⟨3, by omega, by omega, e⟩
    · rcases ez with e | e | e
      · exact ⟨1, by omega, by omega, e⟩
      · exact ⟨2, by omega, by omega, e⟩
      · exact ⟨3, by omega, by omega, e⟩
    · refine rk_four ha hb ?_ ?_ ?_ ?_
      · rw [cl4, hf 1 (by omega) (by omega), hf 2 (by omega) (by omega), hf 3 (by omega) (by omega), ind_no (p := G 1 < x) (by omega), ind_no (p := G 2 < x) (by omega), ind_no (p := G 3 < x) (by omega)]
        have := ind_le (f 0 < x); omega
      · rw [cle4, hf 1 (by omega) (by omega), hf 2 (by omega) (by omega), hf 3 (by omega) (by omega)]; omega
      · rw [cl4, hf 1 (by omega) (by omega), hf 2 (by omega) (by omega), hf 3 (by omega) (by omega)]
        have := ind_le (f 0 < y); omega
      · rw [cle4, hf 1 (by omega) (by omega), hf 2 (by omega) (by omega), hf 3 (by omega) (by omega), ind_yes (p := G 1 ≤ z) (by omega), ind_yes (p := G 2 ≤ z) (by omega), ind_yes (p := G 3 ≤ z) (by omega)]; omega
  · obtain ⟨x, y, z, h1, h2, ⟨a1, a2, a3⟩, ⟨b1, b2, b3⟩, ex, ez, c2, c3⟩ := sort3 (G 0) (G 2) (G 3)
    refine ⟨x, y, z, fun k hk hn => ?_, ?_, ?_, fun f a b hf ha hb => ?_⟩
    · have : k = 0 ∨ k = 2 ∨ k = 3 := by omega
      rcases this with rfl | rfl | rfl <;> omega
    · rcases ex with e | e | e
      · exact ⟨0, by omega, by omega, e⟩
      · exact ⟨2, by omega, by omega, e⟩
      · exact ⟨3, by omega, by omega, e⟩
    · rcases ez with e | e | e
      · exact ⟨0, by omega, by omega, e⟩
      · exact ⟨2, by omega, by omega, e⟩
      · exact ⟨3, by omega, by omega, e⟩
    · refine rk_four ha hb ?_ ?_ ?_ ?_
      · rw [cl4, hf 0 (by omega) (by omega), hf 2 (by omega) (by omega), hf 3 (by omega) (by omega), ind_no (p := G 0 < x) (by omega), ind_no (p := G 2 < x) (by omega), ind_no (p := G 3 < x) (by omega)]
        have := ind_le (f 1 < x); omega
      · rw [cle4, hf 0 (by omega) (by omega), hf 2 (by omega) (by omega), hf 3 (by omega) (by omega)]; omega
      · rw [cl4, hf 0 (by omega) (by omega), hf 2 (by omega) (by omega), hf 3 (by omega) (by omega)]
        have := ind_le (f 1 < y); omega
      · rw [cle4, hf 0 (by omega) (by omega), hf 2 (by omega) (by omega), hf 3 (by omega) (by omega), ind_yes (p := G 0 ≤ z) (by omega), ind_yes (p := G 2 ≤ z) (by omega), ind_yes (p := G 3 ≤ z) (by omega)]; omega
  · obtain ⟨x, y, z, h1, h2, ⟨a1, a2, a3⟩, ⟨b1, b2, b3⟩, ex, ez, c2, c3⟩ := sort3 (G 0) (G 1) (G 3)
    refine ⟨x, y, z, fun k hk hn => ?_, ?_, ?_, fun f a b hf ha hb => ?_⟩
    · have : k = 0 ∨ k = 1 ∨ k = 3 := by omega
      rcases this with rfl | rfl | rfl <;> omega
    · rcases ex with e | e | e
      · exact ⟨0, by omega, by omega, e⟩
      · exact ⟨1, by omega, by omega, e⟩
      · exact ⟨3, by omega, by omega, e⟩
    · rcases ez with e | e | e
      · exact ⟨0, by omega, by omega, e⟩
      · exact ⟨1, by omega, by omega, e⟩
      · exact ⟨3, by omega, by omega, e⟩
    · refine rk_four ha hb ?_ ?_ ?_ ?_
      · rw [cl4, hf 0 (by omega) (by omega), hf 1 (by omega) (by omega), hf 3 (by omega) (by omega), ind_no (p := G 0 < x) (by omega), ind_no (p := G 1 < x) (by omega), ind_no (p := G 3 < x) (by omega)]
        have := ind_le (f 2 < x); omega
      · rw [cle4, hf 0 (by omega) (by omega), hf 1 (by omega) (by omega), hf 3 (by omega) (by omega)]; omega
      · rw [cl4, hf 0 (by omega) (by omega), hf 1 (by omega) (by omega), hf 3 (by omega) (by omega)]
        have := ind_le (f 2 < y); omega
      · rw [cle4, hf 0 (by omega) (by omega), hf 1 (by omega) (by omega), hf 3 (by omega) (by omega), ind_yes (p := G 0 ≤ z) (by omega), ind_yes (p := G 1 ≤ z) (by omega), ind_yes (p := G 3 ≤ z) (by omega)]; omega
  · obtain ⟨x, y, z, h1, h2, ⟨a1, a2, a3⟩, ⟨b1, b2, b3⟩, ex, ez, c2, c3⟩ := sort3 (G 0) (G 1) (G 2)
    refine ⟨x, y, z, fun k hk hn => ?_, ?_, ?_, fun f a b hf ha hb => ?_⟩
    · have : k = 0 ∨ k = 1 ∨ k = 2 := by omega
      rcases this with rfl | rfl | rfl <;> omega
    · rcases ex with e | e | e
      · exact ⟨0, by omega, by omega, e⟩
      · exact ⟨1, by omega, by omega, e⟩
      · exact ⟨2, by omega, by omega, e⟩
    · rcases ez with e | e | e
      · exact ⟨0, by omega, by omega, e⟩
      · exact ⟨1, by omega, by omega, e⟩
      · exact ⟨2, by omega, by omega, e⟩
    · refine rk_four ha hb ?_ ?_ ?_ ?_
      · rw [cl4, hf 0 (by omega) (by omega), hf 1 (by omega) (by omega), hf 2 (by omega) (by omega), ind_no (p := G 0 < x) (by omega), ind_no (p := G 1 < x) (by omega), ind_no (p := G 2 < x) (by omega)]
        have := ind_le (f 3 < x); omega
      · rw [cle4, hf 0 (by omega) (by omega), hf 1 (by omega) (by omega), hf 2 (by omega) (by omega)]; omega
      · rw [cl4, hf 0 (by omega) (by omega), hf 1 (by omega) (by omega), hf 2 (by omega) (by omega)]
        have := ind_le (f 3 < y); omega
      · rw [cle4, hf 0 (by omega) (by omega), hf 1 (by omega) (by omega), hf 2 (by omega) (by omega), ind_yes (p := G 0 ≤ z) (by omega), ind_yes (p := G 1 ≤ z) (by omega), ind_yes (p := G 2 ≤ z) (by omega)]; omega

end Go.Proofs.YthimcecbgpamdaaGreat

namespace Go.Proofs.YthimcecbgpamdaaGreat

/-- A roll. -/
structure Rl where
  I : Nat → Bool
  M : Nat → Int
  J : Nat → Int
/-- A value in place of one. -/
def upM {α : Type} (f : Nat → α) (q : Nat) (x : α) (j : Nat) : α := if j = q then x else f j
theorem upM_same {α : Type} (f : Nat → α) (q : Nat) (x : α) : upM f q x q = x := if_pos rfl
theorem upM_other {α : Type} (f : Nat → α) {q j : Nat} (x : α) (h : j ≠ q) : upM f q x j = f j := if_neg h
def zeroR : Rl := ⟨fun _ => false, fun _ => 0, fun _ => 0⟩
def beginR : Rl := ⟨fun _ => true, fun _ => 0, fun _ => 0⟩
/-- Are the counts of a node within their bounds? -/
def gd (r : Rl) (j : Nat) : Bool := if r.I j then decide (0 ≤ r.M j) && decide (r.M j ≤ 2) && decide (r.J j = 0) else decide (r.M j = 0) && decide (0 ≤ r.J j) && decide (r.J j ≤ 2)
def gdA (r : Rl) : Bool := gd r 0 && gd r 1 && gd r 2 && gd r 3
theorem gd_in {r : Rl} {j : Nat} (h : r.I j = true) : gd r j = true ↔ 0 ≤ r.M j ∧ r.M j ≤ 2 ∧ r.J j = 0 := by unfold gd; rw [if_pos h]; simp [and_assoc]
theorem gd_out {r : Rl} {j : Nat} (h : r.I j = false) : gd r j = true ↔ r.M j = 0 ∧ 0 ≤ r.J j ∧ r.J j ≤ 2 := by unfold gd; rw [if_neg (by rw [h]; decide)]; simp [and_assoc]
theorem gdA_iff {r : Rl} : gdA r = true ↔ ∀ j, j < 4 → gd r j = true := by grind [gdA]
theorem gdA_no {r : Rl} {j : Nat} (hj : j < 4) (h : gd r j = false) : gdA r = false := by
  cases e : gdA r with
  | false => rfl
  | true => rw [gdA_iff.1 e j hj] at h; cases h
theorem gdA_begin : gdA beginR = true := rfl

/-- One node's part of a step. -/
def stN (A : Nat → Bool) (i : Nat) (r : Rl) : Rl :=
  if r.I i = true then (if A i = true then ⟨r.I, upM r.M i 0, r.J⟩ else if 2 ≤ r.M i + 1 ∧ 2 < cn r.I 4 then ⟨upM r.I i false, upM r.M i 0, r.J⟩ else ⟨r.I, upM r.M i (min (r.M i + 1) 2), r.J⟩)
  else if A i = true then (if 3 ≤ r.J i + 1 then ⟨upM r.I i true, r.M, upM r.J i 0⟩ else ⟨r.I, r.M, upM r.J i (r.J i + 1)⟩) else ⟨r.I, r.M, upM r.J i 0⟩
/-- What it tells. -/
def chN (A : Nat → Bool) (i : Nat) (r : Rl) : List (Int × Nat) :=
  if r.I i = true then (if A i = true then [] else if 2 ≤ r.M i + 1 ∧ 2 < cn r.I 4 then [(1, i)] else []) else if A i = true then (if 3 ≤ r.J i + 1 then [(2, i)] else []) else []
section
variable {A : Nat → Bool} {i : Nat} {r : Rl}
theorem st_agree (h : r.I i = true) (a : A i = true) : stN A i r = ⟨r.I, upM r.M i 0, r.J⟩ ∧ chN A i r = [] := by unfold stN chN; rw [if_pos h, if_pos a, if_pos h, if_pos a]; exact ⟨rfl, rfl⟩
theorem st_out (h : r.I i = true) (a : A i = false) (c : 2 ≤ r.M i + 1 ∧ 2 < cn r.I 4) : stN A i r = ⟨upM r.I i false, upM r.M i 0, r.J⟩ ∧ chN A i r = [(1, i)] := by grind [stN, chN]
theorem st_miss (h : r.I i = true) (a : A i = false) (c : ¬ (2 ≤ r.M i + 1 ∧ 2 < cn r.I 4)) : stN A i r = ⟨r.I, upM r.M i (min (r.M i + 1) 2), r.J⟩ ∧ chN A i r = [] := by grind [stN, chN]
theorem st_in (h : r.I i = false) (a : A i = true) (c : 3 ≤ r.J i + 1) : stN A i r = ⟨upM r.I i true, r.M, upM r.J i 0⟩ ∧ chN A i r = [(2, i)] := by grind [stN, chN]
theorem st_join (h : r.I i = false) (a : A i = true) (c : ¬ 3 ≤ r.J i + 1) : stN A i r = ⟨r.I, r.M, upM r.J i (r.J i + 1)⟩ ∧ chN A i r = [] := by grind [stN, chN]
theorem st_off (h : r.I i = false) (a : A i = false) : stN A i r = ⟨r.I, r.M, upM r.J i 0⟩ ∧ chN A i r = [] := by grind [stN, chN]
/-- The six ways. -/
theorem st_cases (A : Nat → Bool) (i : Nat) (r : Rl) :
    (r.I i = true ∧ A i = true ∧ stN A i r = ⟨r.I, upM r.M i 0, r.J⟩ ∧ chN A i r = []) ∨
    (r.I i = true ∧ A i = false ∧ (2 ≤ r.M i + 1 ∧ 2 < cn r.I 4) ∧ stN A i r = ⟨upM r.I i false, upM r.M i 0, r.J⟩ ∧ chN A i r = [(1, i)]) ∨
    (r.I i = true ∧ A i = false ∧ ¬ (2 ≤ r.M i + 1 ∧ 2 < cn r.I 4) ∧ stN A i r = ⟨r.I, upM r.M i (min (r.M i + 1) 2), r.J⟩ ∧ chN A i r = []) ∨
    (r.I i = false ∧ A i = true ∧ 3 ≤ r.J i + 1 ∧ stN A i r = ⟨upM r.I i true, r.M, upM r.J i 0⟩ ∧ chN A i r = [(2, i)]) ∨
    (r.I i = false ∧ A i = true ∧ ¬ 3 ≤ r.J i + 1 ∧ stN A i r = ⟨r.I, r.M, upM r.J i (r.J i + 1)⟩ ∧ chN A i r = []) ∨
    (r.I i = false ∧ A i = false ∧ stN A i r = ⟨r.I, r.M, upM r.J i 0⟩ ∧ chN A i r = []) := by
  cases h : r.I i with
  | true =>
    cases a : A i with
    | true => exact Or.inl ⟨rfl, rfl, st_agree h a⟩
    | false =>
      by_cases c : 2 ≤ r.M i + 1 ∧ 2 < cn r.I 4
      · exact Or.inr (Or.inl ⟨rfl, rfl, c, st_out h a c⟩)
      · exact Or.inr (Or.inr (Or.inl ⟨rfl, rfl, c, st_miss h a c⟩))
  | false =>
    cases a : A i with
    | true =>
      by_cases c : 3 ≤ r.J i + 1
      · exact Or.inr (Or.inr (Or.inr (Or.inl ⟨rfl, rfl, c, st_in h a c⟩)))
      · exact Or.inr (Or.inr (Or.inr (Or.inr (Or.inl ⟨rfl, rfl, c, st_join h a c⟩))))
    | false => exact Or.inr (Or.inr (Or.inr (Or.inr (Or.inr ⟨rfl, rfl, st_off h a⟩))))
theorem st_other {j : Nat} (hj : j ≠ i) : (stN A i r).I j = r.I j ∧ (stN A i r).M j = r.M j ∧ (stN A i r).J j = r.J j := by
  rcases st_cases A i r with ⟨_, _, e, _⟩ | ⟨_, _, _, e, _⟩ | ⟨_, _, _, e, _⟩ | ⟨_, _, _, e, _⟩ | ⟨_, _, _, e, _⟩ | ⟨_, _, e, _⟩ <;> rw [e] <;> simp [upM_other _ _ hj]
theorem gd_congr {s : Rl} {j : Nat} (h1 : s.I j = r.I j) (h2 : s.M j = r.M j) (h3 : s.J j = r.J j) : gd s j = gd r j := by unfold gd; rw [h1, h2, h3]
theorem gd_step (h : gd r i = true) : gd (stN A i r) i = true := by
  rcases st_cases A i r with ⟨a, _, e, _⟩ | ⟨a, _, _, e, _⟩ | ⟨a, _, _, e, _⟩ | ⟨a, _, _, e, _⟩ | ⟨a, _, c, e, _⟩ | ⟨a, _, e, _⟩ <;> rw [e]
  · have := (gd_in a).1 h
    refine (gd_in (r := ⟨r.I, upM r.M i 0, r.J⟩) a).2 ?_
    show 0 ≤ upM r.M i 0 i ∧ upM r.M i 0 i ≤ 2 ∧ r.J i = 0
    rw [upM_same]; omega
  · have := (gd_in a).1 h
    refine (gd_out (upM_same _ _ _)).2 ?_
    show upM r.M i 0 i = 0 ∧ 0 ≤ r.J i ∧ r.J i ≤ 2
    rw [upM_same]; omega
  · have := (gd_in a).1 h
    refine (gd_in (r := ⟨r.I, upM r.M i (min (r.M i + 1) 2), r.J⟩) a).2 ?_
    show 0 ≤ upM r.M i (min (r.M i + 1) 2) i ∧ upM r.M i (min (r.M i + 1) 2) i ≤ 2 ∧ r.J i = 0
    rw [upM_same]; omega
  · have := (gd_out a).1 h
    refine (gd_in (upM_same _ _ _)).2 ?_
    show 0 ≤ r.M i ∧ r.M i ≤ 2 ∧ upM r.J i 0 i = 0
    rw [upM_same]; omega
  · have := (gd_out a).1 h
    refine (gd_out (r := ⟨r.I, r.M, upM r.J i (r.J i + 1)⟩) a).2 ?_
    show r.M i = 0 ∧ 0 ≤ upM r.J i (r.J i + 1) i ∧ upM r.J i (r.J i + 1) i ≤ 2
    rw [upM_same]; omega
  · have := (gd_out a).1 h
    refine (gd_out (r := ⟨r.I, r.M, upM r.J i 0⟩) a).2 ?_
    show r.M i = 0 ∧ 0 ≤ upM r.J i 0 i ∧ upM r.J i 0 i ≤ 2
    rw [upM_same]; omega
theorem gdA_step (h : gdA r = true) : gdA (stN A i r) = true := by
  rw [gdA_iff] at h ⊢
  intro j hj
  by_cases e : j = i
  · subst e; exact gd_step (h j hj)
  · obtain ⟨h1, h2, h3⟩ := st_other (A := A) (r := r) e
    rw [gd_congr h1 h2 h3]; exact h j hj
end
theorem cn_up {I : Nat → Bool} {i : Nat} (hi : i < 4) (b : Bool) : cn (upM I i b) 4 + (if I i = true then 1 else 0) = cn I 4 + (if b = true then 1 else 0) := by
  have e : ∀ f : Nat → Bool, cn f 4 = (if f 0 = true then 1 else 0) + (if f 1 = true then 1 else 0) + (if f 2 = true then 1 else 0) + (if f 3 = true then 1 else 0) := fun f => by simp [cn]
  rw [e, e]
  have : i = 0 ∨ i = 1 ∨ i = 2 ∨ i = 3 := by omega
  rcases this with rfl | rfl | rfl | rfl <;> simp [upM] <;> omega
/-- A whole step, node by node: the roll and what is told. -/
def rnN (A : Nat → Bool) (r : Rl) : Nat → Rl × List (Int × Nat)
  | 0 => (r, [])
  | i + 1 => (stN A i (rnN A r i).1, (rnN A r i).2 ++ chN A i (rnN A r i).1)
section
variable {A : Nat → Bool} {r : Rl}
theorem rn_good (h : gdA r = true) : ∀ i, gdA (rnN A r i).1 = true
  | 0 => h
  | i + 1 => gdA_step (rn_good h i)
theorem rn_rest : ∀ i {j}, i ≤ j → (rnN A r i).1.I j = r.I j ∧ (rnN A r i).1.M j = r.M j ∧ (rnN A r i).1.J j = r.J j
  | 0, _, _ => ⟨rfl, rfl, rfl⟩
  | i + 1, j, h => by
    obtain ⟨a, b, c⟩ := rn_rest i (j := j) (by omega)
    obtain ⟨d, e, f⟩ := st_other (A := A) (r := (rnN A r i).1) (i := i) (j := j) (by omega)
    exact ⟨d.trans a, e.trans b, f.trans c⟩
theorem ch_len (A : Nat → Bool) (i : Nat) (r : Rl) : (chN A i r).length ≤ 1 := by
  rcases st_cases A i r with ⟨_, _, _, e⟩ | ⟨_, _, _, _, e⟩ | ⟨_, _, _, _, e⟩ | ⟨_, _, _, _, e⟩ | ⟨_, _, _, _, e⟩ | ⟨_, _, _, e⟩ <;> rw [e] <;> simp
theorem rn_len (A : Nat → Bool) (r : Rl) : ∀ i, (rnN A r i).2.length ≤ i
  | 0 => Nat.le_refl _
  | i + 1 => by
    have := rn_len A r i
    have := ch_len A i (rnN A r i).1
    show ((rnN A r i).2 ++ chN A i (rnN A r i).1).length ≤ i + 1
    rw [List.length_append]; omega
/-- A node that is in and agrees stays in, and nothing is told of it. -/
theorem rn_stays {k : Nat} (hI : r.I k = true) (hM : r.M k = 0) (hA : A k = true) : ∀ i, (rnN A r i).1.I k = true ∧ (rnN A r i).1.M k = 0 ∧ ∀ c ∈ (rnN A r i).2, c.2 ≠ k
  | 0 => ⟨hI, hM, fun c hc => by cases hc⟩
  | i + 1 => by
    obtain ⟨a, b, c⟩ := rn_stays hI hM hA i
    by_cases e : k = i
    · subst e
      obtain ⟨e1, e2⟩ := st_agree (r := (rnN A r k).1) a hA
      show (stN A k (rnN A r k).1).I k = true ∧ (stN A k (rnN A r k).1).M k = 0 ∧ ∀ c ∈ (rnN A r k).2 ++ chN A k (rnN A r k).1, c.2 ≠ k
      rw [e1, e2, List.append_nil]
      exact ⟨a, upM_same _ _ _, c⟩
    · obtain ⟨d, f, _⟩ := st_other (A := A) (r := (rnN A r i).1) (i := i) (j := k) e
      refine ⟨d.trans a, f.trans b, fun x hx => ?_⟩
      have hx' : x ∈ (rnN A r i).2 ++ chN A i (rnN A r i).1 := hx
      rcases List.mem_append.1 hx' with hx | hx
      · exact c x hx
      · have : x.2 = i := by
          rcases st_cases A i (rnN A r i).1 with ⟨_, _, _, e⟩ | ⟨_, _, _, _, e⟩ | ⟨_, _, _, _, e⟩ | ⟨_, _, _, _, e⟩ | ⟨_, _, _, _, e⟩ | ⟨_, _, _, e⟩ <;> rw [e] at hx <;> simp at hx <;> rw [hx]
        omega
/-- What changes do to the number of those that are in. -/
def smL : List (Int × Nat) → Int
  | [] => 0
  | c :: l => (if c.1 = 2 then 1 else -1) + smL l
theorem smL_append (l m : List (Int × Nat)) : smL (l ++ m) = smL l + smL m := by
  induction l with
  | nil => show smL m = 0 + smL m; omega
  | cons c l ih => show (if c.1 = 2 then 1 else -1) + smL (l ++ m) = (if c.1 = 2 then 1 else -1) + smL l + smL m; rw [ih]; omega
/-- Changes are just those told, and at least two stay in. -/
theorem rn_right (h2 : 2 ≤ cn r.I 4) : ∀ i, i ≤ 4 → 2 ≤ cn (rnN A r i).1.I 4 ∧ ((cn (rnN A r i).1.I 4 : Nat) : Int) = ((cn r.I 4 : Nat) : Int) + smL (rnN A r i).2 ∧
    ∀ c ∈ (rnN A r i).2, c.2 < i ∧ (rnN A r i).1.I c.2 ≠ r.I c.2 ∧ ((rnN A r i).1.I c.2 = true ↔ c.1 = 2) ∧ (c.1 = 1 ∨ c.1 = 2)
  | 0, _ => ⟨h2, by show ((cn r.I 4 : Nat) : Int) = _ + (0 : Int); omega, fun c hc => by cases hc⟩
  | i + 1, hi => by
    obtain ⟨a, b, c⟩ := rn_right h2 i (by omega)
    have rest := (rn_rest (A := A) (r := r) i (Nat.le_refl i)).1
    show 2 ≤ cn (stN A i (rnN A r i).1).I 4 ∧ ((cn (stN A i (rnN A r i).1).I 4 : Nat) : Int) = ((cn r.I 4 : Nat) : Int) + smL ((rnN A r i).2 ++ chN A i (rnN A r i).1) ∧
      ∀ c ∈ (rnN A r i).2 ++ chN A i (rnN A r i).1, c.2 < i + 1 ∧ (stN A i (rnN A r i).1).I c.2 ≠ r.I c.2 ∧ ((stN A i (rnN A r i).1).I c.2 = true ↔ c.1 = 2) ∧ (c.1 = 1 ∨ c.1 = 2)
    have old : ∀ c ∈ (rnN A r i).2, c.2 < i + 1 ∧ (stN A i (rnN A r i).1).I c.2 ≠ r.I c.2 ∧ ((stN A i (rnN A r i).1).I c.2 = true ↔ c.1 = 2) ∧ (c.1 = 1 ∨ c.1 = 2) := fun x hx => by
      obtain ⟨p, q, s, t⟩ := c x hx
      rw [(st_other (A := A) (r := (rnN A r i).1) (i := i) (j := x.2) (by omega)).1]
      exact ⟨by omega, q, s, t⟩
    generalize (rnN A r i).1 = R at *
    generalize (rnN A r i).2 = L at *
    rw [smL_append]
    have u := fun b => cn_up (I := R.I) (i := i) (by omega) b
    rcases st_cases A i R with ⟨p, _, e, f⟩ | ⟨p, _, cc, e, f⟩ | ⟨p, _, _, e, f⟩ | ⟨p, _, _, e, f⟩ | ⟨p, _, _, e, f⟩ | ⟨p, _, e, f⟩ <;> rw [f]
    · rw [List.append_nil]; rw [e] at old ⊢; exact ⟨a, by show _ = _ + (smL L + 0); rw [b]; omega, old⟩
    · have u0 := u false
      rw [p] at u0
      simp at u0
      refine ⟨?_, ?_, fun x hx => ?_⟩
      · rw [e]; show 2 ≤ cn (upM R.I i false) 4; omega
      · rw [e]; show ((cn (upM R.I i false) 4 : Nat) : Int) = _ + (smL L + ((if (1 : Int) = 2 then 1 else -1) + 0)); rw [if_neg (by omega)]; omega
      · rcases List.mem_append.1 hx with hx | hx
        · exact old x hx
        · simp at hx; subst hx
          rw [e]
          show i < i + 1 ∧ upM R.I i false i ≠ r.I i ∧ (upM R.I i false i = true ↔ (1 : Int) = 2) ∧ ((1 : Int) = 1 ∨ (1 : Int) = 2)
          rw [upM_same, ← rest, p]
          exact ⟨by omega, by decide, by decide, Or.inl rfl⟩
    · rw [List.append_nil]; rw [e] at old ⊢; exact ⟨a, by show _ = _ + (smL L + 0); rw [b]; omega, old⟩
    · have u0 := u true
      rw [p] at u0
      simp at u0
      refine ⟨?_, ?_, fun x hx => ?_⟩
      · rw [e]; show 2 ≤ cn (upM R.I i true) 4; omega
      · rw [e]; show ((cn (upM R.I i true) 4 : Nat) : Int) = _ + (smL L + ((if (2 : Int) = 2 then 1 else -1) + 0)); rw [if_pos rfl]; omega
      · rcases List.mem_append.1 hx with hx | hx
        · exact old x hx
        · simp at hx; subst hx
          rw [e]
          show i < i + 1 ∧ upM R.I i true i ≠ r.I i ∧ (upM R.I i true i = true ↔ (2 : Int) = 2) ∧ ((2 : Int) = 1 ∨ (2 : Int) = 2)
          rw [upM_same, ← rest, p]
          exact ⟨by omega, by decide, by decide, Or.inr rfl⟩
    · rw [List.append_nil]; rw [e] at old ⊢; exact ⟨a, by show _ = _ + (smL L + 0); rw [b]; omega, old⟩
    · rw [List.append_nil]; rw [e] at old ⊢; exact ⟨a, by show _ = _ + (smL L + 0); rw [b]; omega, old⟩
end
/-- What Step answers: the roll, what is told, the error. -/
def stR (r : Rl) (st : Bool) (n : Nat) (A : Nat → Bool) : Rl × List (Int × Nat) × Int :=
  if n ≠ 4 then (zeroR, [], 8) else if gdA r = false then (zeroR, [], 3) else if st = true then ((rnN A r 4).1, (rnN A r 4).2, 0) else (r, [], 0)
section
variable {A : Nat → Bool} {r : Rl}
theorem stR_strong (h : gdA r = true) : stR r true 4 A = ((rnN A r 4).1, (rnN A r 4).2, 0) := by
  unfold stR; rw [if_neg (by omega), if_neg (by rw [h]; decide), if_pos rfl]
theorem stR_weak (h : gdA r = true) : stR r false 4 A = (r, [], 0) := by
  unfold stR; rw [if_neg (by omega), if_neg (by rw [h]; decide), if_neg (by decide)]
theorem stR_len (r : Rl) (st : Bool) (n : Nat) (A : Nat → Bool) : (stR r st n A).2.1.length ≤ 4 := by
  unfold stR
  split
  · exact Nat.zero_le _
  · split
    · exact Nat.zero_le _
    · split
      · exact rn_len A r 4
      · exact Nat.zero_le _
end

end Go.Proofs.YthimcecbgpamdaaGreat

namespace Go.Proofs.YthimcecbgpamdaaGreat

/-- How many of the first k nodes are in and say x; how many are in. -/
def vk (b : Nat → Bool) (v : Nat → Int) (x : Int) : Nat → Nat
  | 0 => 0
  | k + 1 => vk b v x k + if b k = true ∧ v k = x then 1 else 0
def ti (b : Nat → Bool) : Nat → Nat
  | 0 => 0
  | k + 1 => ti b k + if b k = true then 1 else 0
theorem vk_le_tt (b : Nat → Bool) (v : Nat → Int) (x : Int) (k : Nat) : vk b v x k ≤ ti b k := by
  induction k with
  | zero => exact Nat.le_refl _
  | succ k ih =>
    show vk b v x k + _ ≤ ti b k + _
    by_cases h : b k = true
    · by_cases h2 : v k = x
      · rw [if_pos ⟨h, h2⟩, if_pos h]; omega
      · rw [if_neg (fun h3 => h2 h3.2), if_pos h]; omega
    · rw [if_neg (fun h3 => h h3.1), if_neg h]; omega
theorem ti_le (b : Nat → Bool) (k : Nat) : ti b k ≤ k := by
  induction k with
  | zero => exact Nat.le_refl _
  | succ k ih => show ti b k + _ ≤ k + 1; split <;> omega
theorem vk_le (b : Nat → Bool) (v : Nat → Int) (x : Int) (k : Nat) : vk b v x k ≤ k := Nat.le_trans (vk_le_tt b v x k) (ti_le b k)
theorem ti_zero {b : Nat → Bool} {k : Nat} (h : ti b k = 0) : ∀ i, i < k → b i = false := by
  induction k with
  | zero => intro i hi; omega
  | succ k ih =>
    have h2 : ti b k + (if b k = true then 1 else 0) = 0 := h
    intro i hi
    by_cases hb : b k = true
    · rw [if_pos hb] at h2; omega
    · rw [if_neg hb] at h2
      by_cases e : i = k
      · subst e; simpa using hb
      · exact ih (by omega) i (by omega)
theorem ti_pos {b : Nat → Bool} {k i : Nat} (hi : i < k) (h : b i = true) : 0 < ti b k := by
  rcases Nat.eq_zero_or_pos (ti b k) with e | e
  · have := ti_zero e i hi; rw [h] at this; cases this
  · exact e
theorem vk_pos {b : Nat → Bool} {v : Nat → Int} {k i : Nat} (hi : i < k) (h : b i = true) : 0 < vk b v (v i) k := by
  induction k with
  | zero => omega
  | succ k ih =>
    show 0 < vk b v (v i) k + _
    by_cases e : i = k
    · subst e; rw [if_pos ⟨h, rfl⟩]; omega
    · have := ih (by omega); omega

/-- Of the first k nodes that are in: the vote that most have (of all four), the lowest node's of several. -/
def IsV (v : Nat → Int) (b : Nat → Bool) (k : Nat) (X : Int) : Prop :=
  (ti b k = 0 ∧ X = 0) ∨ ∃ m, m < k ∧ b m = true ∧ X = v m ∧ (∀ i, i < k → b i = true → vk b v (v i) 4 ≤ vk b v X 4) ∧ ∀ i, i < m → b i = true → vk b v (v i) 4 < vk b v X 4
theorem isV_start (v : Nat → Int) (b : Nat → Bool) : IsV v b 0 0 := Or.inl ⟨rfl, rfl⟩
theorem isV_out {v : Nat → Int} {b : Nat → Bool} {k : Nat} {X : Int} (h : IsV v b k X) (hb : b k = false) : IsV v b (k + 1) X := by
  rcases h with ⟨h1, h2⟩ | ⟨m, h1, h2, h3, h4, h5⟩
  · refine Or.inl ⟨?_, h2⟩
    show ti b k + _ = 0
    rw [if_neg (by rw [hb]; decide)]; omega
  · refine Or.inr ⟨m, by omega, h2, h3, fun i hi hbi => ?_, h5⟩
    by_cases e : i = k
    · subst e; rw [hb] at hbi; cases hbi
    · exact h4 i (by omega) hbi
theorem isV_take {v : Nat → Int} {b : Nat → Bool} {k : Nat} {X : Int} (h : IsV v b k X) (hb : b k = true) (hc : vk b v X 4 < vk b v (v k) 4 ∨ ti b k = 0) : IsV v b (k + 1) (v k) := by
  refine Or.inr ⟨k, by omega, hb, rfl, ?_⟩
  rcases h with ⟨h1, h2⟩ | ⟨m, h1, h2, h3, h4, h5⟩
  · refine ⟨fun i hi hbi => ?_, fun i hi hbi => ?_⟩
    · by_cases e : i = k
      · subst e; exact Nat.le_refl _
      · have := ti_zero h1 i (by omega); rw [this] at hbi; cases hbi
    · have := ti_zero h1 i hi; rw [this] at hbi; cases hbi
  · have hp : vk b v X 4 < vk b v (v k) 4 := by
      rcases hc with h | h
      · exact h
      · have := ti_zero h m h1; rw [this] at h2; cases h2
    refine ⟨fun i hi hbi => ?_, fun i hi hbi => ?_⟩
    · by_cases e : i = k
      · subst e; exact Nat.le_refl _
      · have := h4 i (by omega) hbi; omega
    · have := h4 i hi hbi; omega
theorem isV_leave {v : Nat → Int} {b : Nat → Bool} {k : Nat} {X : Int} (h : IsV v b k X) (hc : ¬ (vk b v X 4 < vk b v (v k) 4)) (ht : ti b k ≠ 0) : IsV v b (k + 1) X := by
  rcases h with ⟨h1, h2⟩ | ⟨m, h1, h2, h3, h4, h5⟩
  · omega
  · refine Or.inr ⟨m, by omega, h2, h3, fun i hi hbi => ?_, h5⟩
    by_cases e : i = k
    · subst e; omega
    · exact h4 i (by omega) hbi
theorem isV_one {v : Nat → Int} {b : Nat → Bool} {k : Nat} {X Y : Int} (h : IsV v b k X) (h' : IsV v b k Y) : X = Y := by
  rcases h with ⟨h1, h2⟩ | ⟨m, h1, h2, h3, h4, h5⟩ <;> rcases h' with ⟨g1, g2⟩ | ⟨m', g1, g2, g3, g4, g5⟩
  · rw [h2, g2]
  · have := ti_zero h1 m' g1; rw [this] at g2; cases g2
  · have := ti_zero g1 m h1; rw [this] at h2; cases h2
  · have e1 := h4 m' g1 g2; have e2 := g4 m h1 h2
    rw [← g3] at e1; rw [← h3] at e2
    rcases Nat.lt_trichotomy m m' with h | h | h
    · have := g5 m h h2; rw [← h3] at this; omega
    · rw [h3, g3, h]
    · have := h5 m' h g2; rw [← g3] at this; omega
/-- A verdict. -/
def vtS (v : Nat → Int) (b : Nat → Bool) (X : Int) : Bool := decide (0 < ti b 4 ∧ ti b 4 < 2 * vk b v X 4)
def vtA (v : Nat → Int) (b : Nat → Bool) (X : Int) (i : Nat) : Bool := decide (0 < ti b 4 ∧ v i = X)

end Go.Proofs.YthimcecbgpamdaaGreat

namespace Go.Proofs.YthimcecbgpamdaaGreat

/-- The number that more than half are, else another. -/
def IsMaj (f : Nat → Int) (n : Nat) (other m : Int) : Prop := (n < 2 * ce f n m) ∨ ((∀ v, ¬ n < 2 * ce f n v) ∧ m = other)
theorem ce_two {f : Nat → Int} {n : Nat} {u v : Int} (h : u ≠ v) : ce f n u + ce f n v ≤ n := by
  induction n with
  | zero => exact Nat.le_refl _
  | succ n ih =>
    show (cn _ n + if decide (f n = u) = true then 1 else 0) + (cn _ n + if decide (f n = v) = true then 1 else 0) ≤ n + 1
    have ih' : cn (fun i => decide (f i = u)) n + cn (fun i => decide (f i = v)) n ≤ n := ih
    by_cases h1 : f n = u
    · rw [if_pos (decide_eq_true h1), if_neg (by rw [decide_eq_false (by omega)]; decide)]; omega
    · rw [if_neg (by rw [decide_eq_false h1]; decide)]
      split <;> omega
theorem maj_one {f : Nat → Int} {n : Nat} {other m m' : Int} (h : IsMaj f n other m) (h' : IsMaj f n other m') : m = m' := by
  rcases h with h | ⟨h, e⟩ <;> rcases h' with h' | ⟨h', e'⟩
  · by_cases c : m = m'
    · exact c
    · have := ce_two (f := f) (n := n) c; omega
  · exact absurd h (h' m)
  · exact absurd h' (h m')
  · rw [e, e']
theorem maj_congr {f g : Nat → Int} {n : Nat} {other m : Int} (e : ∀ i, i < n → f i = g i) (h : IsMaj f n other m) : IsMaj g n other m := by
  have e2 : ∀ v, ce f n v = ce g n v := fun v => cn_congr (fun i hi => by rw [e i hi])
  unfold IsMaj at h ⊢
  rcases h with h | ⟨h, e'⟩
  · exact Or.inl (by rw [← e2]; exact h)
  · exact Or.inr ⟨fun v => by rw [← e2]; exact h v, e'⟩
theorem maj_round {f g : Nat → Int} {k l : Nat} {other m : Int} (h1 : ∀ i, i < l → g i = f (k + i)) (h2 : ∀ i, i < k → g (l + i) = f i) (h : IsMaj f (k + l) other m) : IsMaj g (l + k) other m := by
  have e2 : ∀ v, ce g (l + k) v = ce f (k + l) v := fun v => cn_round _ k l _ (fun i hi => by rw [h1 i hi]) (fun i hi => by rw [h2 i hi])
  unfold IsMaj at h ⊢
  rcases h with h | ⟨h, e'⟩
  · exact Or.inl (by rw [e2]; omega)
  · exact Or.inr ⟨fun v => by rw [e2, show l + k = k + l by omega]; exact h v, e'⟩
/-- Of three, the number that two are, else nought. -/
def dc3 (a b c : Int) : Int := if a = b then a else if a = c then a else if b = c then b else 0
theorem ce3 (f : Nat → Int) (v : Int) : ce f 3 v = ind (f 0 = v) + ind (f 1 = v) + ind (f 2 = v) := by
  have e : ∀ i, (if decide (f i = v) = true then 1 else 0) = ind (f i = v) := fun i => by unfold ind; by_cases h : f i = v <;> simp [h]
  show ((0 + (if decide (f 0 = v) = true then 1 else 0)) + (if decide (f 1 = v) = true then 1 else 0)) + (if decide (f 2 = v) = true then 1 else 0) = _
  rw [e, e, e]; omega
theorem dc3_maj (f : Nat → Int) : IsMaj f 3 0 (dc3 (f 0) (f 1) (f 2)) := by
  unfold dc3
  split
  · rename_i h
    refine Or.inl ?_
    rw [ce3, ind_yes (p := f 0 = f 0) rfl, ind_yes (p := f 1 = f 0) h.symm]; omega
  · split
    · rename_i h
      refine Or.inl ?_
      rw [ce3, ind_yes (p := f 0 = f 0) rfl, ind_yes (p := f 2 = f 0) h.symm]; omega
    · split
      · rename_i h
        refine Or.inl ?_
        rw [ce3, ind_yes (p := f 1 = f 1) rfl, ind_yes (p := f 2 = f 1) h.symm]; omega
      · rename_i h1 h2 h3
        refine Or.inr ⟨fun v => ?_, rfl⟩
        rw [ce3]
        by_cases a : f 0 = v
        · rw [ind_yes a, ind_no (p := f 1 = v) (by omega), ind_no (p := f 2 = v) (by omega)]; omega
        · rw [ind_no a]
          by_cases b : f 1 = v
          · rw [ind_yes b, ind_no (p := f 2 = v) (by omega)]; omega
          · rw [ind_no b]; have := ind_le (f 2 = v); omega

/-- How many lies were told ahead of s. -/
def bsN (bad : Int) (s : Nat) : Nat := if 0 ≤ bad ∧ bad < 4 then (if (s : Int) ≤ bad then 2 * s else 2 * s + 1) else 0
/-- What r hears from s. -/
def hdF (v : Nat → Int) (bad : Int) (L : Nat → Int) (s r : Nat) : Int := if (s : Int) = bad ∧ r ≠ s then L (bsN bad s + (if r < s then r else r - 1)) else v s
/-- What r tells q that it heard from s. -/
def psF (v : Nat → Int) (bad : Int) (L : Nat → Int) (s r q : Nat) : Int := if (r : Int) = bad then L (bsN bad s + (q - (if s < q then 1 else 0) - (if r < q then 1 else 0))) else hdF v bad L s r
/-- The other two. -/
def o1 (q s : Nat) : Nat := if 0 ≠ q ∧ 0 ≠ s then 0 else if 1 ≠ q ∧ 1 ≠ s then 1 else 2
def o2 (q s : Nat) : Nat := if 3 ≠ q ∧ 3 ≠ s then 3 else if 2 ≠ q ∧ 2 ≠ s then 2 else 1
/-- What q takes for said by s. -/
def vcF (v : Nat → Int) (bad : Int) (L : Nat → Int) (q s : Nat) : Int := if q = s then v s else dc3 (hdF v bad L s q) (psF v bad L s (o1 q s) q) (psF v bad L s (o2 q s) q)
theorem dc3_ab (a b c : Int) : dc3 a b c = dc3 b a c := by unfold dc3; split <;> split <;> (try split) <;> (try split) <;> (try split) <;> omega
theorem dc3_bc (a b c : Int) : dc3 a b c = dc3 a c b := by unfold dc3; split <;> split <;> (try split) <;> (try split) <;> (try split) <;> omega
theorem dc3_two (a c : Int) : dc3 a a c = a := by unfold dc3; rw [if_pos rfl]
theorem oth {q s : Nat} (hq : q < 4) (hs : s < 4) (h : q ≠ s) : o1 q s ≠ o2 q s ∧ o1 q s ≠ s ∧ o2 q s ≠ s ∧ o1 q s ≠ q ∧ o2 q s ≠ q ∧ o1 q s < 4 ∧ o2 q s < 4 := by
  have : q = 0 ∨ q = 1 ∨ q = 2 ∨ q = 3 := by omega
  have : s = 0 ∨ s = 1 ∨ s = 2 ∨ s = 3 := by omega
  rcases ‹q = 0 ∨ _› with rfl | rfl | rfl | rfl <;> rcases ‹s = 0 ∨ _› with rfl | rfl | rfl | rfl <;> first | omega | (exact absurd rfl h) | decide
theorem vc_true {v : Nat → Int} {bad : Int} {L : Nat → Int} {p s : Nat} (hp : p < 4) (hs : s < 4) (bs : (s : Int) ≠ bad) : vcF v bad L p s = v s := by
  unfold vcF
  by_cases e : p = s
  · rw [if_pos e]
  · rw [if_neg e]
    obtain ⟨h1, h2, h3, _⟩ := oth hp hs e
    have hh : ∀ r, hdF v bad L s r = v s := fun r => by unfold hdF; rw [if_neg (fun h => bs h.1)]
    by_cases c : ((o1 p s : Nat) : Int) = bad
    · have e2 : psF v bad L s (o2 p s) p = v s := by unfold psF; rw [if_neg (by omega), hh]
      rw [hh, e2, dc3_bc, dc3_two]
    · have e1 : psF v bad L s (o1 p s) p = v s := by unfold psF; rw [if_neg c, hh]
      rw [hh, e1, dc3_two]
theorem vc_same {v : Nat → Int} {bad : Int} {L : Nat → Int} {p q s : Nat} (hp : p < 4) (hq : q < 4) (hs : s < 4) (bp : (p : Int) ≠ bad) (bq : (q : Int) ≠ bad) : vcF v bad L p s = vcF v bad L q s := by
  by_cases bs : (s : Int) = bad
  · have key : ∀ t, t < 4 → t ≠ s → vcF v bad L t s = dc3 (hdF v bad L s t) (hdF v bad L s (o1 t s)) (hdF v bad L s (o2 t s)) := fun t ht hn => by
      obtain ⟨_, h2, h3, _⟩ := oth ht hs hn
      unfold vcF
      rw [if_neg hn]
      unfold psF
      rw [if_neg (by omega), if_neg (by omega)]
    rw [key p hp (by omega), key q hq (by omega)]
    generalize hdF v bad L s = h
    have sp : s = 0 ∨ s = 1 ∨ s = 2 ∨ s = 3 := by omega
    have pp : p = 0 ∨ p = 1 ∨ p = 2 ∨ p = 3 := by omega
    have qq : q = 0 ∨ q = 1 ∨ q = 2 ∨ q = 3 := by omega
    have np : p ≠ s := by omega
    have nq : q ≠ s := by omega
    clear bs bp bq hp hq hs key
    have perm : ∀ a b c : Int, dc3 a b c = dc3 b a c ∧ dc3 a b c = dc3 c a b ∧ dc3 a b c = dc3 b c a ∧ dc3 a b c = dc3 c b a := fun a b c => ⟨dc3_ab a b c, by rw [dc3_bc, dc3_ab], by rw [dc3_ab, dc3_bc], by rw [dc3_ab, dc3_bc, dc3_ab]⟩
    rcases sp with rfl | rfl | rfl | rfl <;> rcases pp with rfl | rfl | rfl | rfl <;> rcases qq with rfl | rfl | rfl | rfl <;> first | omega | rfl | exact (perm _ _ _).1 | exact (perm _ _ _).2.1 | exact (perm _ _ _).2.2.1 | exact (perm _ _ _).2.2.2
  · rw [vc_true hp hs bs, vc_true hq hs bs]

end Go.Proofs.YthimcecbgpamdaaGreat

namespace Go.Proofs.YthimcecbgpamdaaGreat

/-- The first n numbers as a list. -/
def lsN (f : Nat → Int) (n : Nat) : List Int := (List.range n).map f
theorem lsN_len (f : Nat → Int) (n : Nat) : (lsN f n).length = n := by simp [lsN]
theorem lsN_succ (f : Nat → Int) (n : Nat) : lsN f (n + 1) = lsN f n ++ [f n] := by simp [lsN, List.range_succ]
theorem cn_countP (f : Nat → Int) (p : Int → Bool) (n : Nat) : cn (fun i => p (f i)) n = (lsN f n).countP p := by
  induction n with
  | zero => rfl
  | succ n ih =>
    rw [lsN_succ, List.countP_append, ← ih]
    show cn _ n + (if p (f n) then 1 else 0) = _
    by_cases h : p (f n) = true <;> simp [h]
/-- In order. -/
def srt (l : List Int) : List Int := l.mergeSort (fun x y => decide (x ≤ y))
theorem srt_len (l : List Int) : (srt l).length = l.length := by unfold srt; exact List.length_mergeSort _
theorem srt_perm (l : List Int) : (srt l).Perm l := by unfold srt; exact List.mergeSort_perm _ _
theorem srt_le (l : List Int) : (srt l).Pairwise (fun x y => x ≤ y) := by
  have h : (srt l).Pairwise (fun x y => decide (x ≤ y) = true) := by
    unfold srt
    exact List.pairwise_mergeSort (fun a b c h1 h2 => by have := of_decide_eq_true h1; have := of_decide_eq_true h2; exact decide_eq_true (by omega)) (fun a b => by
      rcases Int.le_total a b with h | h
      · rw [decide_eq_true h]; rfl
      · rw [decide_eq_true h, Bool.or_true]) l
  exact h.imp (fun h => of_decide_eq_true h)
theorem srt_at {l : List Int} {i j : Nat} {x y : Int} (hi : (srt l)[i]? = some x) (hj : (srt l)[j]? = some y) (h : i ≤ j) : x ≤ y := by
  rcases Nat.lt_or_ge i j with c | c
  · have hx := List.getElem?_eq_some_iff.1 hi; have hy := List.getElem?_eq_some_iff.1 hj
    obtain ⟨a, rfl⟩ := hx; obtain ⟨b, rfl⟩ := hy
    exact List.pairwise_iff_getElem.1 (srt_le l) i j a b c
  · have : i = j := by omega
    subst this
    rw [hi] at hj; cases hj; exact Int.le_refl _
theorem srt_less {l : List Int} {k : Nat} {v : Int} (h : (srt l)[k]? = some v) : (srt l).countP (fun x => decide (x < v)) ≤ k := by
  have e := List.take_append_drop k (srt l)
  rw [← e, List.countP_append]
  have h1 : ((srt l).take k).countP (fun x => decide (x < v)) ≤ k := Nat.le_trans List.countP_le_length (by simp; omega)
  have h2 : ((srt l).drop k).countP (fun x => decide (x < v)) = 0 := by
    rw [List.countP_eq_zero]
    intro a ha
    obtain ⟨j, hj⟩ := List.mem_iff_getElem?.1 ha
    rw [List.getElem?_drop] at hj
    have := srt_at h hj (by omega)
    simp; omega
  omega
theorem srt_upto {l : List Int} {k : Nat} {v : Int} (h : (srt l)[k]? = some v) : k < (srt l).countP (fun x => decide (x ≤ v)) := by
  have hk : k < (srt l).length := (List.getElem?_eq_some_iff.1 h).1
  have e := List.take_append_drop (k + 1) (srt l)
  rw [← e, List.countP_append]
  have h1 : ((srt l).take (k + 1)).countP (fun x => decide (x ≤ v)) = k + 1 := by
    have h2 : ((srt l).take (k + 1)).countP (fun x => decide (x ≤ v)) = ((srt l).take (k + 1)).length := by
      rw [List.countP_eq_length]
      intro a ha
      obtain ⟨j, hj⟩ := List.mem_iff_getElem?.1 ha
      have hj' : j < k + 1 := by
        have := (List.getElem?_eq_some_iff.1 hj).1
        simp at this; omega
      rw [List.getElem?_take_of_lt hj'] at hj
      exact decide_eq_true (srt_at hj h (by omega))
    rw [h2, List.length_take]; omega
  omega
theorem rk_srt {f : Nat → Int} {n k : Nat} {v : Int} (h : (srt (lsN f n))[k]? = some v) : IsRk f n k v := by
  have e1 : cl f n v = (srt (lsN f n)).countP (fun x => decide (x < v)) := by
    rw [(srt_perm _).countP_eq]; exact cn_countP f (fun x => decide (x < v)) n
  have e2 : cl f n v + ce f n v = (srt (lsN f n)).countP (fun x => decide (x ≤ v)) := by
    rw [(srt_perm _).countP_eq, cl_le]; exact cn_countP f (fun x => decide (x ≤ v)) n
  exact ⟨by rw [e1]; exact srt_less h, by rw [e2]; exact srt_upto h⟩
/-- The one in the middle, of a list in order. -/
theorem mid_srt {f : Nat → Int} {n : Nat} {a b : Int} (h1 : (srt (lsN f n))[(n - 1) / 3]? = some a) (h2 : (srt (lsN f n))[n - 1 - (n - 1) / 3]? = some b) : IsMid f n ((a + b) / 2) := ⟨a, b, rk_srt h1, rk_srt h2, rfl⟩

/-- Half of a sum, by the bits that differ. -/
theorem and_xor (x y : Nat) : x + y = 2 * (x &&& y) + (x ^^^ y) := by
  induction x using Nat.strongRecOn generalizing y with
  | _ x ih =>
    rcases Nat.eq_zero_or_pos x with h | h
    · subst h; simp
    · have e := ih (x / 2) (by omega) (y / 2)
      have a1 : (x &&& y) / 2 = x / 2 &&& y / 2 := Nat.and_div_two
      have a2 : (x ^^^ y) / 2 = x / 2 ^^^ y / 2 := Nat.xor_div_two
      have b1 : (x &&& y) % 2 = x % 2 &&& y % 2 := Nat.and_mod_two_pow (n := 1)
      have b2 : (x ^^^ y) % 2 = x % 2 ^^^ y % 2 := Nat.xor_mod_two_pow (n := 1)
      rw [← a1, ← a2] at e
      clear a1 a2 ih
      generalize x &&& y = p at *
      generalize x ^^^ y = q at *
      have hx : x % 2 = 0 ∨ x % 2 = 1 := by omega
      have hy : y % 2 = 0 ∨ y % 2 = 1 := by omega
      rcases hx with hx | hx <;> rcases hy with hy | hy <;> rw [hx, hy] at b1 b2
      · have b1 : p % 2 = 0 := b1; have b2 : q % 2 = 0 := b2; omega
      · have b1 : p % 2 = 0 := b1; have b2 : q % 2 = 1 := b2; omega
      · have b1 : p % 2 = 0 := b1; have b2 : q % 2 = 1 := b2; omega
      · have b1 : p % 2 = 1 := b1; have b2 : q % 2 = 0 := b2; omega
theorem half_pat (A B : BitVec 64) : A.toInt + B.toInt = 2 * (A &&& B).toInt + (A ^^^ B).toInt := by
  have h := and_xor A.toNat B.toNat
  rw [← BitVec.toNat_and, ← BitVec.toNat_xor] at h
  rw [BitVec.toInt_eq_msb_cond, BitVec.toInt_eq_msb_cond, BitVec.toInt_eq_msb_cond, BitVec.toInt_eq_msb_cond, BitVec.msb_and, BitVec.msb_xor]
  generalize (A &&& B).toNat = p at *
  generalize (A ^^^ B).toNat = q at *
  cases A.msb <;> cases B.msb <;> simp <;> omega
theorem wrap_pat (A : BitVec 64) : IntKind.i64.wrap (A.toNat : Int) = A.toInt := by
  rw [IntKind.wrap_i64, BitVec.toInt_eq_toNat_cond]
  have := A.isLt
  split <;> omega
theorem pat_of {a : Int} (h : R64 a) : (BitVec.ofInt 64 a).toInt = a := by
  obtain ⟨h1, h2⟩ := h
  rw [BitVec.toInt_ofInt, Int.bmod_def]
  have e : ((2 ^ 64 : Nat) : Int) = 18446744073709551616 := rfl
  rw [e]
  split <;> omega
theorem half_bits {a b : Int} (ha : R64 a) (hb : R64 b) : ∃ p q, bits .and .i64 a b = p ∧ bits .xor .i64 a b = q ∧ R64 p ∧ R64 q ∧ p + q / 2 = (a + b) / 2 := by
  refine ⟨(BitVec.ofInt 64 a &&& BitVec.ofInt 64 b).toInt, (BitVec.ofInt 64 a ^^^ BitVec.ofInt 64 b).toInt, ?_, ?_, ?_, ?_, ?_⟩
  · exact wrap_pat _
  · exact wrap_pat _
  · have h1 := BitVec.le_toInt (BitVec.ofInt 64 a &&& BitVec.ofInt 64 b); have h2 := BitVec.toInt_lt (x := BitVec.ofInt 64 a &&& BitVec.ofInt 64 b)
    exact ⟨by omega, by omega⟩
  · have h1 := BitVec.le_toInt (BitVec.ofInt 64 a ^^^ BitVec.ofInt 64 b); have h2 := BitVec.toInt_lt (x := BitVec.ofInt 64 a ^^^ BitVec.ofInt 64 b)
    exact ⟨by omega, by omega⟩
  · have h := half_pat (BitVec.ofInt 64 a) (BitVec.ofInt 64 b)
    rw [pat_of ha, pat_of hb] at h
    omega

end Go.Proofs.YthimcecbgpamdaaGreat

namespace Go.Proofs.YthimcecbgpamdaaGreat

/-- One step of the register. -/
def cS (x : Nat) : Nat := if x % 2 = 0 then x / 2 else x / 2 ^^^ 3988292384
/-- Many steps. -/
def cN : Nat → Nat → Nat
  | 0, x => x
  | n + 1, x => cN n (cS x)
/-- The register over the first n bytes. -/
def cF (r : Nat) (g : Nat → Nat) : Nat → Nat
  | 0 => r
  | n + 1 => cN 8 (cF r g n ^^^ g n)
/-- Bytes as one number, the first one lowest. -/
def cV (g : Nat → Nat) : Nat → Nat
  | 0 => 0
  | n + 1 => cV g n + g n * 2 ^ (8 * n)

theorem x_div2 (x y : Nat) : (x ^^^ y) / 2 = (x / 2) ^^^ (y / 2) := by
  apply Nat.eq_of_testBit_eq
  intro i
  simp only [Nat.testBit_xor, ← Nat.testBit_succ]
theorem x_mod2 (x y : Nat) : (x ^^^ y) % 2 = (x % 2 + y % 2) % 2 := by
  have h := Nat.testBit_xor (x := x) (y := y) (i := 0)
  simp only [Nat.testBit_zero] at h
  rcases Nat.mod_two_eq_zero_or_one x with hx | hx <;> rcases Nat.mod_two_eq_zero_or_one y with hy | hy <;> rcases Nat.mod_two_eq_zero_or_one (x ^^^ y) with hz | hz <;> simp [hx, hy, hz] at h ⊢
theorem cS_x (x y : Nat) : cS (x ^^^ y) = cS x ^^^ cS y := by
  unfold cS
  rw [x_div2, x_mod2]
  rcases Nat.mod_two_eq_zero_or_one x with hx | hx <;> rcases Nat.mod_two_eq_zero_or_one y with hy | hy <;> simp [hx, hy, Nat.xor_assoc]
  · rw [Nat.xor_comm 3988292384 (y / 2)]
  · rw [← Nat.xor_assoc 3988292384 (y / 2), Nat.xor_comm 3988292384 (y / 2), Nat.xor_assoc (y / 2), Nat.xor_self, Nat.xor_zero]
theorem cN_x (n : Nat) : ∀ (x y : Nat), cN n (x ^^^ y) = cN n x ^^^ cN n y := by
  induction n with
  | zero => intro x y; rfl
  | succ n ih => intro x y; show cN n (cS (x ^^^ y)) = _; rw [cS_x, ih]; rfl
theorem cN_add (n : Nat) : ∀ (m x : Nat), cN (n + m) x = cN m (cN n x) := by
  induction n with
  | zero => intro m x; rw [Nat.zero_add]; rfl
  | succ n ih => intro m x; rw [Nat.add_right_comm]; show cN (n + m) (cS x) = _; rw [ih]; rfl
theorem cN_one (x : Nat) : cN 1 x = cS x := rfl
theorem cS_zero : cS 0 = 0 := by decide
theorem cN_zero (n : Nat) : cN n 0 = 0 := by
  induction n with
  | zero => rfl
  | succ n ih => show cN n (cS 0) = 0; rw [cS_zero, ih]
theorem cN_up (n : Nat) : ∀ x, cN n (x * 2 ^ n) = x := by
  induction n with
  | zero => intro x; show x * 1 = x; omega
  | succ n ih =>
    intro x
    show cN n (cS (x * 2 ^ (n + 1))) = x
    have h : cS (x * 2 ^ (n + 1)) = x * 2 ^ n := by
      have e : x * 2 ^ (n + 1) = (x * 2 ^ n) * 2 := by rw [Nat.pow_succ, Nat.mul_assoc]
      unfold cS
      rw [e, if_pos (by omega)]; omega
    rw [h, ih]
theorem cS_lt {x : Nat} (h : x < 4294967296) : cS x < 4294967296 := by
  unfold cS
  split
  · omega
  · exact Nat.xor_lt_two_pow (n := 32) (by omega) (by decide)
theorem cN_lt {n : Nat} : ∀ {x : Nat}, x < 4294967296 → cN n x < 4294967296 := by
  induction n with
  | zero => intro x h; exact h
  | succ n ih => intro x h; exact ih (cS_lt h)
theorem cS_ne {x : Nat} (h : x < 4294967296) (h0 : x ≠ 0) : cS x ≠ 0 := by
  unfold cS
  split
  · omega
  · intro e
    have e2 : x / 2 = 3988292384 := by
      have := congrArg (· ^^^ 3988292384) e
      simpa [Nat.xor_assoc, Nat.xor_self] using this
    omega
theorem cN_ne {n : Nat} : ∀ {x : Nat}, x < 4294967296 → x ≠ 0 → cN n x ≠ 0 := by
  induction n with
  | zero => intro x _ h; exact h
  | succ n ih => intro x h h0; exact ih (cS_lt h) (cS_ne h h0)

theorem low_x {x : Nat} (n : Nat) (h : x < 2 ^ n) (y : Nat) : x + y * 2 ^ n = x ^^^ (y * 2 ^ n) := by
  apply Nat.eq_of_testBit_eq
  intro i
  rw [Nat.testBit_xor, Nat.add_comm, Nat.mul_comm, Nat.testBit_two_pow_mul_add _ h, Nat.testBit_two_pow_mul]
  by_cases hi : i < n
  · simp [hi, Nat.not_le.2 hi]
  · have : x.testBit i = false := Nat.testBit_lt_two_pow (Nat.lt_of_lt_of_le h (Nat.pow_le_pow_right (by omega) (by omega)))
    simp [hi, this, Nat.le_of_not_lt hi]
/-- Eight steps by a table: the lowest byte's steps, the others come down. -/
theorem c8_split (r c : Nat) : cN 8 (r ^^^ c) = cN 8 (r % 256 ^^^ c) ^^^ (r / 256) := by
  have e : r ^^^ c = (r % 256 ^^^ c) ^^^ ((r / 256) * 2 ^ 8) := by
    have h := low_x (x := r % 256) 8 (by omega) (r / 256)
    have h2 : r = r % 256 ^^^ (r / 256) * 2 ^ 8 := by rw [← h]; omega
    conv => lhs; rw [h2]
    rw [Nat.xor_assoc, Nat.xor_comm _ c, ← Nat.xor_assoc]
  rw [e, cN_x, cN_up]

theorem cV_lt {g : Nat → Nat} (hg : ∀ i, g i < 256) (n : Nat) : cV g n < 2 ^ (8 * n) := by
  induction n with
  | zero => show 0 < 2 ^ 0; omega
  | succ n ih =>
    show cV g n + g n * 2 ^ (8 * n) < 2 ^ (8 * (n + 1))
    have e : 2 ^ (8 * (n + 1)) = 256 * 2 ^ (8 * n) := by rw [Nat.mul_add, Nat.pow_add, Nat.mul_comm]
    rw [e]
    have h1 : g n * 2 ^ (8 * n) ≤ 255 * 2 ^ (8 * n) := Nat.mul_le_mul_right _ (by have := hg n; omega)
    omega
theorem cV_x {g : Nat → Nat} (hg : ∀ i, g i < 256) (n : Nat) : cV g (n + 1) = cV g n ^^^ g n * 2 ^ (8 * n) := low_x _ (cV_lt hg n) _
/-- The register over bytes is the steps of their number. -/
theorem cF_V (r : Nat) {g : Nat → Nat} (hg : ∀ i, g i < 256) (n : Nat) : cF r g n = cN (8 * n) (r ^^^ cV g n) := by
  induction n with
  | zero => show r = r ^^^ 0; rw [Nat.xor_zero]
  | succ n ih =>
    show cN 8 (cF r g n ^^^ g n) = _
    rw [cV_x hg, ← Nat.xor_assoc, Nat.mul_add, cN_add, cN_x (8 * n) _ (g n * _), cN_up, ← ih]
theorem cF_lt {r : Nat} {g : Nat → Nat} (hr : r < 4294967296) (hg : ∀ i, g i < 256) (n : Nat) : cF r g n < 4294967296 := by
  induction n with
  | zero => exact hr
  | succ n ih => exact cN_lt (Nat.xor_lt_two_pow (n := 32) ih (by have := hg n; omega))
theorem cF_congr (r : Nat) {g h : Nat → Nat} (n : Nat) (e : ∀ i, i < n → g i = h i) : cF r g n = cF r h n := by
  induction n with
  | zero => rfl
  | succ n ih => show cN 8 (cF r g n ^^^ g n) = cN 8 (cF r h n ^^^ h n); rw [ih (fun i hi => e i (by omega)), e n (by omega)]
theorem cF_add (r : Nat) (g : Nat → Nat) (n m : Nat) : cF r g (n + m) = cF (cF r g n) (fun i => g (n + i)) m := by
  induction m with
  | zero => rfl
  | succ m ih => show cN 8 (cF r g (n + m) ^^^ g (n + m)) = cN 8 (cF (cF r g n) (fun i => g (n + i)) m ^^^ g (n + m)); rw [ih]
theorem cF_lin (r s : Nat) (g h : Nat → Nat) (n : Nat) : cF (r ^^^ s) (fun i => g i ^^^ h i) n = cF r g n ^^^ cF s h n := by
  induction n with
  | zero => rfl
  | succ n ih =>
    show cN 8 (cF (r ^^^ s) (fun i => g i ^^^ h i) n ^^^ (g n ^^^ h n)) = cN 8 (cF r g n ^^^ g n) ^^^ cN 8 (cF s h n ^^^ h n)
    rw [ih, ← cN_x]
    congr 1
    rw [Nat.xor_assoc, Nat.xor_assoc, ← Nat.xor_assoc (cF s h n), Nat.xor_comm (cF s h n) (g n), Nat.xor_assoc (g n)]
/-- A burst changes the register. -/
theorem cF_burst (r : Nat) {g h : Nat → Nat} (hg : ∀ i, g i < 256) (hh : ∀ i, h i < 256) (n p m : Nat) (hp : p < 8 * n) (hm : m % 2 = 1) (hm2 : m < 4294967296) (e : cV h n = cV g n ^^^ m * 2 ^ p) : cF r h n ≠ cF r g n := by
  rw [cF_V r hg, cF_V r hh, e, ← Nat.xor_assoc, cN_x]
  intro k
  have k2 : cN (8 * n) (m * 2 ^ p) = 0 := by
    have := congrArg (cN (8 * n) (r ^^^ cV g n) ^^^ ·) k
    simpa [← Nat.xor_assoc, Nat.xor_self] using this
  have e2 : 8 * n = p + (8 * n - p) := by omega
  rw [e2, cN_add, cN_up] at k2
  exact cN_ne hm2 (by omega) k2
theorem cV_bit {g : Nat → Nat} (hg : ∀ i, g i < 256) (n i : Nat) : (cV g n).testBit i = (decide (i < 8 * n) && (g (i / 8)).testBit (i % 8)) := by
  induction n with
  | zero => show Nat.testBit 0 i = _; simp
  | succ n ih =>
    show (cV g n + g n * 2 ^ (8 * n)).testBit i = _
    rw [low_x _ (cV_lt hg n), Nat.testBit_xor, ih, Nat.mul_comm (g n), Nat.testBit_two_pow_mul]
    rcases Nat.lt_or_ge i (8 * n) with h | h
    · simp [h, Nat.not_le.2 h, show i < 8 * (n + 1) by omega]
    · rcases Nat.lt_or_ge i (8 * (n + 1)) with h2 | h2
      · have e1 : i / 8 = n := by omega
        have e2 : i % 8 = i - 8 * n := by omega
        simp [h2, Nat.not_lt.2 h, h, e1, e2]
      · have : (g n).testBit (i - 8 * n) = false := Nat.testBit_lt_two_pow (Nat.lt_of_lt_of_le (hg n) (by
          have : 2 ^ 8 ≤ 2 ^ (i - 8 * n) := Nat.pow_le_pow_right (by omega) (by omega)
          simpa using this))
        simp [h, Nat.not_lt.2 h, Nat.not_lt.2 h2, this]

end Go.Proofs.YthimcecbgpamdaaGreat

namespace Go.Proofs.YthimcecbgpamdaaGreat

/-- Byte i of n of a number, the highest first. -/
def bt (v : Int) (n i : Nat) : Nat := (v / 256 ^ (n - 1 - i) % 256).toNat
theorem bt_int (v : Int) (n i : Nat) : (bt v n i : Int) = v / 256 ^ (n - 1 - i) % 256 := by unfold bt; omega
theorem bt_lt (v : Int) (n i : Nat) : bt v n i < 256 := by unfold bt; omega
theorem bt_head (v : Int) (k : Nat) : (bt v (k + 1) 0 : Int) = v / 256 ^ k % 256 := by rw [bt_int]; rfl
theorem bt_tail (v : Int) (k i : Nat) : bt v (k + 1) (i + 1) = bt v k i := by
  unfold bt
  rw [show k + 1 - 1 - (i + 1) = k - 1 - i by omega]
theorem pow256_pos (k : Nat) : (0 : Int) < 256 ^ k := Int.pow_pos (by decide)
theorem div_next (v : Int) (k : Nat) : v / 256 ^ k / 256 = v / 256 ^ (k + 1) := by
  rw [Int.ediv_ediv_of_nonneg (Int.le_of_lt (pow256_pos k)), Int.pow_succ]

/-- The number of the first n bytes, the highest first. -/
def vn (g : Nat → Nat) : Nat → Nat
  | 0 => 0
  | k + 1 => vn g k * 256 + g k
theorem vn_lt {g : Nat → Nat} (hg : ∀ i, g i < 256) (k : Nat) : vn g k < 256 ^ k := by
  induction k with
  | zero => show 0 < 1; omega
  | succ k ih => have := hg k; show vn g k * 256 + g k < 256 ^ (k + 1); rw [Nat.pow_succ]; omega
theorem vn_congr {g f : Nat → Nat} {k : Nat} (h : ∀ i, i < k → g i = f i) : vn g k = vn f k := by
  induction k with
  | zero => rfl
  | succ k ih => show vn g k * 256 + g k = vn f k * 256 + f k; rw [ih (fun i hi => h i (by omega)), h k (by omega)]

theorem emod_split (u m : Int) (hm : 0 < m) : u % (m * 256) = u / 256 % m * 256 + u % 256 := by
  have h1 : u = 256 * (u / 256) + u % 256 := (Int.mul_ediv_add_emod u 256).symm
  have h2 := Int.mul_ediv_add_emod (u / 256) m
  have h3 := Int.emod_nonneg (u / 256) (Int.ne_of_gt hm)
  have h4 := Int.emod_lt_of_pos (u / 256) hm
  obtain ⟨q, hq⟩ : ∃ q, q = u / 256 / m := ⟨_, rfl⟩
  obtain ⟨r, hr⟩ : ∃ r, r = u / 256 % m := ⟨_, rfl⟩
  obtain ⟨s, hs⟩ : ∃ s, s = u % 256 := ⟨_, rfl⟩
  rw [← hq, ← hr] at h2
  rw [← hr] at h3 h4 ⊢
  rw [← hs] at h1 ⊢
  have e : u = (r * 256 + s) + m * 256 * q := by
    rw [h1, ← h2, Int.mul_add, Int.mul_comm m 256, Int.mul_assoc]; omega
  rw [e, Int.add_mul_emod_self_left]
  apply Int.emod_eq_of_lt
  · omega
  · omega
theorem vn_bt (v : Int) (n k : Nat) (hk : k ≤ n) : (vn (bt v n) k : Int) = v / 256 ^ (n - k) % 256 ^ k := by
  induction k with
  | zero => simp [vn, Int.emod_one]
  | succ k ih =>
    have h := ih (by omega)
    show ((vn (bt v n) k * 256 + bt v n k : Nat) : Int) = _
    rw [Int.natCast_add, Int.natCast_mul, h, bt_int, show n - 1 - k = n - (k + 1) by omega, Int.pow_succ, emod_split _ _ (pow256_pos k), div_next, show n - (k + 1) + 1 = n - k by omega]
    rfl
theorem vn_bt_all (v : Int) (n : Nat) : (vn (bt v n) n : Int) = v % 256 ^ n := by
  rw [vn_bt v n n (Nat.le_refl _), Nat.sub_self, Int.pow_zero, Int.ediv_one]

theorem vn_cut {g : Nat → Nat} (hg : ∀ i, g i < 256) (j k : Nat) : vn g (j + k) / 256 ^ k = vn g j := by
  induction k with
  | zero => simp
  | succ k ih =>
    have := hg (j + k)
    rw [Nat.pow_succ', ← Nat.div_div_eq_div_mul, show j + (k + 1) = j + k + 1 by omega]
    show (vn g (j + k) * 256 + g (j + k)) / 256 / 256 ^ k = _
    rw [show (vn g (j + k) * 256 + g (j + k)) / 256 = vn g (j + k) by omega, ih]
theorem bt_vn {g : Nat → Nat} (hg : ∀ i, g i < 256) (n i : Nat) (hi : i < n) : bt (vn g n : Nat) n i = g i := by
  have h : ((vn g n : Nat) : Int) / 256 ^ (n - 1 - i) = ((vn g (i + 1) : Nat) : Int) := by
    have e := vn_cut hg (i + 1) (n - 1 - i)
    rw [show i + 1 + (n - 1 - i) = n by omega] at e
    rw [← e, Int.natCast_ediv, Int.natCast_pow]; rfl
  have hb := bt_int (vn g n : Nat) n i
  rw [h] at hb
  have := hg i
  have hv : vn g (i + 1) = vn g i * 256 + g i := rfl
  omega

/-- A number of eight bytes with a sign. -/
def sg (v : Nat) : Int := if v < 9223372036854775808 then (v : Int) else (v : Int) - 18446744073709551616
theorem sg_R64 {v : Nat} (h : v < 18446744073709551616) : R64 (sg v) := by unfold sg R64; split <;> omega
theorem sg_mod {v : Nat} (h : v < 18446744073709551616) : sg v % 18446744073709551616 = v := by unfold sg; split <;> omega
theorem bt_mod (v u : Int) (i : Nat) (h : v % 18446744073709551616 = u % 18446744073709551616) : bt v 8 i = bt u 8 i := by
  unfold bt
  congr 1
  have key : ∀ x : Int, x / 256 ^ (8 - 1 - i) % 256 = x % 18446744073709551616 / 256 ^ (8 - 1 - i) % 256 := by
    intro x
    have : 8 - 1 - i = 0 ∨ 8 - 1 - i = 1 ∨ 8 - 1 - i = 2 ∨ 8 - 1 - i = 3 ∨ 8 - 1 - i = 4 ∨ 8 - 1 - i = 5 ∨ 8 - 1 - i = 6 ∨ 8 - 1 - i = 7 := by omega
    rcases this with e | e | e | e | e | e | e | e <;> rw [e] <;> omega
  rw [key v, key u, h]
theorem sg_bt {v : Int} (h : R64 v) : sg (vn (bt v 8) 8) = v := by
  have e := vn_bt_all v 8
  have e8 : (256 : Int) ^ 8 = 18446744073709551616 := by decide
  rw [e8] at e
  unfold R64 at h
  unfold sg
  split <;> omega
theorem bt_sg {g : Nat → Nat} (hg : ∀ i, g i < 256) (i : Nat) (hi : i < 8) : bt (sg (vn g 8)) 8 i = g i := by
  have hv := vn_lt hg 8
  have e8 : 256 ^ 8 = 18446744073709551616 := by decide
  rw [e8] at hv
  rw [bt_mod (sg (vn g 8)) (vn g 8 : Nat) i (by rw [sg_mod hv]; omega), bt_vn hg 8 i hi]

/-- What is wrong of a message. -/
def wrongM (K F R : Int) (n : Nat) : Int :=
  if K < 1 ∨ 5 < K then 4 else if F < 0 ∨ 3 < F ∨ R < 0 ∨ 2147483647 < R then 3 else if 24 < n then 6 else 0
theorem wrongM_right {K F R : Int} {n : Nat} (h : wrongM K F R n = 0) : 1 ≤ K ∧ K ≤ 5 ∧ 0 ≤ F ∧ F ≤ 3 ∧ 0 ≤ R ∧ R ≤ 2147483647 ∧ n ≤ 24 := by
  unfold wrongM at h
  split at h
  · omega
  · split at h
    · omega
    · split at h
      · omega
      · omega
/-- The bytes ahead of the sum. -/
def enF (K F R : Int) (n : Nat) (f : Nat → Int) (i : Nat) : Nat :=
  if i = 0 then 87 else if i = 1 then (K % 256).toNat else if i = 2 then (F % 256).toNat else if i < 7 then bt R 4 (i - 3) else if i = 7 then n % 256 else bt (f ((i - 8) / 8)) 8 ((i - 8) % 8)
theorem enF_lt (K F R : Int) (n : Nat) (f : Nat → Int) (i : Nat) : enF K F R n f i < 256 := by grind [enF, bt_lt]
theorem enF_val (K F R : Int) (n : Nat) (f : Nat → Int) (j k : Nat) (hk : k < 8) : enF K F R n f (8 + 8 * j + k) = bt (f j) 8 k := by grind [enF]

/-- The numbers of a message's bytes. -/
def dR (g : Nat → Nat) : Nat := vn (fun i => g (3 + i)) 4
def dV (g : Nat → Nat) (i : Nat) : Int := sg (vn (fun k => g (8 + 8 * i + k)) 8)
theorem dV_R64 {g : Nat → Nat} (hg : ∀ i, g i < 256) (i : Nat) : R64 (dV g i) := sg_R64 (Nat.lt_of_lt_of_eq (vn_lt (fun k => hg _) 8) (by decide))
theorem dR_lt {g : Nat → Nat} (hg : ∀ i, g i < 256) : dR g < 4294967296 := Nat.lt_of_lt_of_eq (vn_lt (fun k => hg _) 4) (by decide)
/-- What was encoded is what is read. -/
theorem back_R {g : Nat → Nat} {K F R : Int} {n : Nat} {f : Nat → Int} (h0 : 0 ≤ R) (h1 : R ≤ 2147483647) (h : ∀ i, i < 8 + 8 * n → g i = enF K F R n f i) : (dR g : Int) = R := by
  have e : dR g = vn (bt R 4) 4 := vn_congr (fun i hi => by
    show g (3 + i) = _
    rw [h (3 + i) (by omega)]
    unfold enF
    rw [if_neg (by omega), if_neg (by omega), if_neg (by omega), if_pos (by omega), show 3 + i - 3 = i by omega])
  rw [e, vn_bt_all R 4, show (256 : Int) ^ 4 = 4294967296 by decide]
  omega
theorem back_V {g : Nat → Nat} {K F R : Int} {n : Nat} {f : Nat → Int} (hf : ∀ i, R64 (f i)) (h : ∀ i, i < 8 + 8 * n → g i = enF K F R n f i) {j : Nat} (hj : j < n) : dV g j = f j := by
  have e : vn (fun k => g (8 + 8 * j + k)) 8 = vn (bt (f j) 8) 8 := vn_congr (fun k hk => by
    show g (8 + 8 * j + k) = _
    rw [h (8 + 8 * j + k) (by omega), enF_val K F R n f j k hk])
  unfold dV
  rw [e, sg_bt (hf j)]
/-- What is read is encoded as just these bytes. -/
theorem only_en {g : Nat → Nat} (hg : ∀ i, g i < 256) (h0 : g 0 = 87) (i : Nat) (hi : i < 8 + 8 * g 7) : enF (g 1 : Nat) (g 2 : Nat) (dR g : Nat) (g 7) (dV g) i = g i := by
  have h1 := hg 1; have h2 := hg 2; have h7 := hg 7
  by_cases c0 : i = 0
  · subst c0; unfold enF; rw [if_pos rfl, h0]
  · by_cases c1 : i = 1
    · subst c1; unfold enF; rw [if_neg (by omega), if_pos rfl]; omega
    · by_cases c2 : i = 2
      · subst c2; unfold enF; rw [if_neg (by omega), if_neg (by omega), if_pos rfl]; omega
      · by_cases c3 : i < 7
        · unfold enF
          rw [if_neg c0, if_neg c1, if_neg c2, if_pos c3]
          have := bt_vn (g := fun i => g (3 + i)) (fun i => hg _) 4 (i - 3) (by omega)
          unfold dR
          rw [this, show 3 + (i - 3) = i by omega]
        · by_cases c7 : i = 7
          · subst c7; unfold enF; rw [if_neg (by omega), if_neg (by omega), if_neg (by omega), if_neg (by omega), if_pos rfl]; omega
          · obtain ⟨j, k, hk, rfl⟩ : ∃ j k, k < 8 ∧ i = 8 + 8 * j + k := ⟨(i - 8) / 8, (i - 8) % 8, by omega, by omega⟩
            rw [enF_val _ _ _ _ _ j k hk]
            exact bt_sg (g := fun k => g (8 + 8 * j + k)) (fun i => hg _) k hk

end Go.Proofs.YthimcecbgpamdaaGreat

namespace Go.Proofs.YthimcecbgpamdaaGreat
open Go.RowKit

/-- A message. -/
structure Ms where
  K : Int
  F : Int
  R : Int
  L : List Int
/-- A computer. -/
structure Nd where
  id : Int
  fr : Int
  tn : Tn
  ax : Nat → St
  rl : Rl
  di : Nat → Nat → Int
  he : Nat → Int
  ag : Nat → Nat → Int
  us : Nat → Int
  dg : Int
  vX : Int
  vS : Bool
  vA : List Bool
def St.nil' : St := ⟨0, 0, 0, 0, 0, false, 0⟩
def St.beg0 : St := ⟨0, 0, 4294967296, 0, 4294967296, false, 0⟩
def zeroN : Nd := ⟨0, 0, ⟨0, 0, 0, 0⟩, fun _ => St.nil', zeroR, fun _ _ => 0, fun _ => 0, fun _ _ => 0, fun _ => 0, 0, 0, false, []⟩
def zeroM : Ms := ⟨0, 0, 0, []⟩
/-- Is it no node? -/
def noN (id : Int) : Bool := decide (id < 0) || decide (3 < id)
/-- Begin. -/
def begN (id : Int) (t : Tn) : Nd := if noN id then zeroN else { zeroN with id := id, tn := t, ax := fun _ => St.beg0, rl := beginR }
def begE (id : Int) : Int := if noN id then 3 else 0

/-- What is heard of a node. -/
def frst (n : Nd) (l : List Ms) (s : Nat) (kind : Int) (many : Nat) : Option (List Int) :=
  (l.find? fun m : Ms => decide (m.F = (s : Int)) && decide (m.F ≠ n.id) && decide (m.K = kind) && decide (m.R = n.fr) && decide (m.L.length = many)).map (·.L)
theorem frst_len {n : Nd} {l : List Ms} {s : Nat} {kind : Int} {many : Nat} {v : List Int} (h : frst n l s kind many = some v) : v.length = many := by
  unfold frst at h
  rw [Option.map_eq_some_iff] at h
  obtain ⟨m, h1, rfl⟩ := h
  have := List.find?_some h1
  simp only [Bool.and_eq_true, decide_eq_true_eq] at this
  exact this.2
theorem frst_own {n : Nd} {l : List Ms} {s : Nat} {kind : Int} {many : Nat} (h : (s : Int) = n.id) : frst n l s kind many = none := by grind [frst]
/-- It speaks only of who hears, and of the frame. -/
theorem frst_same {n n' : Nd} (h1 : n'.id = n.id) (h2 : n'.fr = n.fr) (l : List Ms) (s : Nat) (kind : Int) (many : Nat) : frst n' l s kind many = frst n l s kind many := by
  unfold frst; rw [h1, h2]

/-- Sense. -/
def senN (n : Nd) (frame : Int) (rd : Nat → Int) : Nd := if noN n.id then n else { n with fr := frame, di := fun s a => if (s : Int) = n.id then rd a else 0, he := fun _ => 0 }
def senM (n : Nd) (frame : Int) (rd : Nat → Int) : Ms := if noN n.id then zeroM else ⟨1, n.id, frame, [rd 0, rd 1, rd 2]⟩
/-- Relay. -/
def relD (n : Nd) (l : List Ms) (s a : Nat) : Int := match frst n l s 1 3 with | some v => v.getD a 0 | none => n.di s a
def relN (n : Nd) (l : List Ms) : Nd := if noN n.id then n else { n with di := relD n l }
def relM (n : Nd) (l : List Ms) : Ms := if noN n.id then zeroM else ⟨2, n.id, n.fr, (List.range 12).map fun i => relD n l (i / 3) (i % 3)⟩
/-- What a node tells of another; what is taken for said. -/
def tldN (n : Nd) (l : List Ms) (i k many : Nat) : Int := match frst n l i 2 many with | some v => v.getD k 0 | none => 0
def tkn (n : Nd) (l : List Ms) (s : Nat) (h : Int) (k many : Nat) : Int :=
  if (s : Int) = n.id then h else dc3 h (tldN n l (o1 n.id.toNat s) k many) (tldN n l (o2 n.id.toNat s) k many)

/-- The middle of a list of at most 64; 0 of none. -/
def midL (l : List Int) : Int := if 1 ≤ l.length ∧ l.length ≤ 64 then ((srt l).getD ((l.length - 1) / 3) 0 + (srt l).getD (l.length - 1 - (l.length - 1) / 3) 0) / 2 else 0
theorem midL_at {f : Nat → Int} {n : Nat} {m : Int} (h1 : 1 ≤ n) (h2 : n ≤ 64) (h : IsMid f n m) : m = midL (lsN f n) := by
  have el : (lsN f n).length = n := by unfold lsN; simp
  have es : (srt (lsN f n)).length = n := by unfold srt; rw [List.length_mergeSort, el]
  unfold midL
  rw [el, if_pos ⟨h1, h2⟩]
  have g : ∀ k, k < n → (srt (lsN f n))[k]? = some ((srt (lsN f n)).getD k 0) := fun k hk => by
    rw [List.getD_eq_getElem?_getD, List.getElem?_eq_getElem (by omega)]; rfl
  exact mid_one h (mid_srt (g _ (by omega)) (g _ (by omega)))
theorem midL_nil : midL [] = 0 := by decide
/-- What those say that are in. -/
def insL (b : Nat → Bool) (f : Nat → Int) : Nat → List Int
  | 0 => []
  | k + 1 => insL b f k ++ (if b k then [f k] else [])
theorem insL_len (b : Nat → Bool) (f : Nat → Int) (k : Nat) : (insL b f k).length ≤ k := by
  induction k with
  | zero => exact Nat.le_refl 0
  | succ k ih =>
    show (insL b f k ++ _).length ≤ _
    rw [List.length_append]
    split
    · show _ + 1 ≤ _; omega
    · show _ + 0 ≤ _; omega

/-- The vote's value. -/
def vtX (v : Nat → Int) (b : Nat → Bool) : Nat → Int
  | 0 => 0
  | k + 1 => if b k = true ∧ (vk b v (vtX v b k) 4 < vk b v (v k) 4 ∨ ti b k = 0) then v k else vtX v b k
theorem isV_vtX (v : Nat → Int) (b : Nat → Bool) : ∀ k, IsV v b k (vtX v b k)
  | 0 => isV_start v b
  | k + 1 => by
    have ih := isV_vtX v b k
    show IsV v b (k + 1) (if _ then v k else vtX v b k)
    cases hb : b k with
    | false => rw [if_neg (by rintro ⟨c, _⟩; exact absurd c (by decide))]; exact isV_out ih hb
    | true =>
      by_cases c : vk b v (vtX v b k) 4 < vk b v (v k) 4 ∨ ti b k = 0
      · rw [if_pos ⟨rfl, c⟩]; exact isV_take ih hb c
      · rw [if_neg (fun h => c h.2)]; exact isV_leave ih (fun h => c (Or.inl h)) (fun h => c (Or.inr h))
theorem vtX_at {v : Nat → Int} {b : Nat → Bool} {X : Int} (h : IsV v b 4 X) : X = vtX v b 4 := isV_one h (isV_vtX v b 4)

/-- The state in numbers. -/
def inN (b : Nat → Bool) : Int := (if b 0 then 1 else 0) + (if b 1 then 2 else 0) + (if b 2 then 4 else 0) + (if b 3 then 8 else 0)
def ctN8 (f : Nat → Int) : Nat → Int
  | 0 => 0
  | k + 1 => wrap64 (wrap64 (8 * ctN8 f k) + f k)
def axL (s : St) : List Int := [s.X, s.V, s.P00, s.P01, s.P11, if s.B then 1 else 0, s.M]
def pck (ax : Nat → St) (r : Rl) : List Int := axL (ax 0) ++ axL (ax 1) ++ axL (ax 2) ++ [inN r.I, ctN8 r.M 4, ctN8 r.J 4]
theorem pck_len (ax : Nat → St) (r : Rl) : (pck ax r).length = 24 := rfl
def pckB (ax : Nat → St) (r : Rl) (i : Nat) : Nat := bt ((pck ax r).getD (i / 8) 0) 8 (i % 8)

/-- The digest; Decide. -/
def dgN (ax : Nat → St) (r : Rl) : Int := ((4294967295 - cF 4294967295 (pckB ax r) 192 : Nat) : Int)
def decG (n : Nd) (l : List Ms) (s a : Nat) : Int := tkn n l s (n.di s a) (3 * s + a) 12
def decU (n : Nd) (l : List Ms) (a : Nat) : Int := midL (insL n.rl.I (fun s => decG n l s a) 4)
def decA (n : Nd) (l : List Ms) (a : Nat) : St := stepS (n.ax a) n.tn (decU n l a)
def decD (n : Nd) (l : List Ms) : Int := dgN (decA n l) n.rl
def decN (n : Nd) (l : List Ms) : Nd := if noN n.id then n else { n with ag := decG n l, us := decU n l, ax := decA n l, dg := decD n l, he := fun s => if (s : Int) = n.id then decD n l else n.he s }
def decM (n : Nd) (l : List Ms) : Ms := if noN n.id then zeroM else ⟨3, n.id, n.fr, [decD n l]⟩

/-- Pass. -/
def pasH (n : Nd) (l : List Ms) (s : Nat) : Int := match frst n l s 3 1 with | some v => v.getD 0 0 | none => n.he s
def pasN (n : Nd) (l : List Ms) : Nd := if noN n.id then n else { n with he := pasH n l }
def pasM (n : Nd) (l : List Ms) : Ms := if noN n.id then zeroM else ⟨2, n.id, n.fr, (List.range 4).map (pasH n l)⟩

/-- Judge. -/
def judV (n : Nd) (l : List Ms) (s : Nat) : Int := tkn n l s (n.he s) s 4
def judX (n : Nd) (l : List Ms) : Int := vtX (judV n l) n.rl.I 4
def judA (n : Nd) (l : List Ms) (i : Nat) : Bool := vtA (judV n l) n.rl.I (judX n l) i
def judS (n : Nd) (l : List Ms) : Bool := vtS (judV n l) n.rl.I (judX n l)
def judR (n : Nd) (l : List Ms) : Rl := if (stR n.rl (judS n l) 4 (judA n l)).2.2 = 0 then (stR n.rl (judS n l) 4 (judA n l)).1 else n.rl
def judN (n : Nd) (l : List Ms) : Nd := if noN n.id then n else { n with vX := judX n l, vS := judS n l, vA := (List.range 4).map (judA n l), rl := judR n l }
def judM (n : Nd) (l : List Ms) : Ms := if noN n.id then zeroM else ⟨5, n.id, n.fr, pck n.ax (judR n l)⟩

/-- Numbers as a state; do they tell one? -/
def unA (v : List Int) (a : Nat) : St := ⟨v.getD (7 * a) 0, v.getD (7 * a + 1) 0, v.getD (7 * a + 2) 0, v.getD (7 * a + 3) 0, v.getD (7 * a + 4) 0, decide (0 < v.getD (7 * a + 5) 0), v.getD (7 * a + 6) 0⟩
def unR (v : List Int) : Rl := ⟨fun i => decide (v.getD 21 0 / 2 ^ i % 2 = 1), fun i => v.getD 22 0 / 8 ^ (3 - i) % 8, fun i => v.getD 23 0 / 8 ^ (3 - i) % 8⟩
def unOK (v : List Int) : Bool :=
  (List.range 3).all (fun a => decide (0 ≤ v.getD (7 * a + 5) 0) && decide (v.getD (7 * a + 5) 0 ≤ 1)) && decide (0 ≤ v.getD 21 0) && decide (v.getD 21 0 ≤ 15) && decide (0 ≤ v.getD 22 0) && decide (v.getD 22 0 ≤ 4095) &&
    decide (0 ≤ v.getD 23 0) && decide (v.getD 23 0 ≤ 4095) && gdA (unR v)
/-- The pairs in their order; what the first pair that is heard and alike tells. -/
def prs : List (Nat × Nat) := [(0, 1), (0, 2), (0, 3), (1, 2), (1, 3), (2, 3)]
def pairN (n : Nd) (l : List Ms) (p : Nat × Nat) : Option (List Int) := match frst n l p.1 5 24, frst n l p.2 5 24 with | some a, some b => if a = b then some a else none | _, _ => none
def cloV (n : Nd) (l : List Ms) : Option (List Int) := if n.vS = true ∧ n.vX ≠ n.dg then prs.findSome? (pairN n l) else none
def cloN (n : Nd) (l : List Ms) : Nd := if noN n.id then n else match cloV n l with | some v => if unOK v then { n with ax := unA v, rl := unR v } else n | none => n

end Go.Proofs.YthimcecbgpamdaaGreat
