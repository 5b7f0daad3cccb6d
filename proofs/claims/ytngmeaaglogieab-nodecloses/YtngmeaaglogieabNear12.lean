/- Joined: OpenRow, FilSpec. -/
import Derived.Test.YtngmeaaglogieabRows
import Derived.Test.YtngmeaaglogieabRowPlain
import Derived.Lib.SmallJoins
import Derived.OpenShut
import Derived.SizedLaws
import Derived.ChangeSlices
import Derived.Test.YtngmeaaglogieabNear6
namespace Go.Proofs.Ytngmeaaglogieab
open Go.ChangeShapes Go.WideShapes Go.ChangeAt Go.RowKit Go.Joins

/-- A slice of numbers that was handed in. -/
def ArgS (w : World) (ao : Option Addr) (len cap : Nat) (f : Nat → Int) : Prop :=
  ((ao = none ∧ len = 0 ∧ cap = 0) ∨ ∃ x, ao = some x ∧ ∀ i, i < len → w.cell? (x.add i) = some (.int .i64 (f i))) ∧ len * 8 ≤ 140737488351232 ∧ ∀ i, R64 (f i)
theorem ArgS.rds {w : World} {ao : Option Addr} {len cap : Nat} {f : Nat → Int} (h : ArgS w ao len cap f) : Rds w ao len f := by
  intro hl
  rcases h.1 with ⟨_, h0, _⟩ | ⟨x, rfl, hc⟩
  · omega
  · obtain ⟨b, o, spot⟩ := x
    have hs : spot = none := by simpa [Addr.add] using World.cell?_spot (hc 0 hl)
    subst hs
    exact ⟨b, o, rfl, fun i hi => by have := hc i hi; rw [Addr.add_lit] at this; exact this⟩
theorem ArgS.below {w w' : World} {ao : Option Addr} {len cap : Nat} {f : Nat → Int} (h : ArgS w ao len cap f) (k : Below w.heap.size w w') : ArgS w' ao len cap f := by
  refine ⟨?_, h.2⟩
  rcases h.1 with h | ⟨x, rfl, hc⟩
  · exact Or.inl h
  · exact Or.inr ⟨x, rfl, fun i hi => at_below (hc i hi) k⟩

theorem bytesInt : Try.prog.bytesOf 3 = 8 := by kernel_rfl
theorem cellsInt : Try.prog.cellsOf 3 = 1 := by kernel_rfl

section
variable {H : Type} {enc : TypeId × Value → H} {w : World} {base : Nat} {held : Bool}

set_option maxRecDepth 100000 in
theorem open_row {fuel : Nat} {v : Value} {x : DataW H × List MemPlace} (h : DataW.trod enc Try.prog w base (fun _ => true) held fuel 50 [v] = some x) (hsz : ∀ n ∈ x.1.weights Try.prog 50, n ≤ reachBytes) :
    ∃ ao len cap f, v = .slice ao len cap ∧ ArgS w ao len cap f := by
  rcases open_ints Try.underlying50 Try.underlying3 cellsInt h with ⟨hcs, _⟩ | ⟨a, len, cap, zs, hcs, _, hl, _, hz, hx, hcell, hwz⟩
  · simp at hcs
    exact ⟨none, 0, 0, fun _ => 0, hcs, Or.inl ⟨rfl, rfl, rfl⟩, by decide, fun _ => R64_nought⟩
  · simp at hcs
    have hz' : zs.length = cap := by simpa using hz
    have hb : zs.length * 8 ≤ reachBytes := by
      refine hsz _ ?_
      rw [hx]
      simp [DataW.weights, Try.underlying50, bytesInt, lits]
      left; omega
    refine ⟨some a, len, cap, fun i => zs.getD i 0, hcs, Or.inr ⟨a, rfl, fun i hi => hcell i (by omega)⟩, by unfold reachBytes at hb; omega, fun i => ?_⟩
    rcases Nat.lt_or_ge i zs.length with hi | hi
    · have e : zs.getD i 0 = zs[i] := by simp [List.getD, hi]
      show R64 (zs.getD i 0)
      rw [e]; exact R64.of_wf (hwz _ (List.getElem_mem hi))
    · have e : zs.getD i 0 = 0 := by simp [List.getD, hi]
      show R64 (zs.getD i 0)
      rw [e]; exact R64_nought
set_option maxRecDepth 100000 in
theorem open_rowArg {r : Reach} {b0 : Nat} {v : Value} {d : DataW H} {p : List MemPlace} (hv : Value.okWide Try.prog w r b0 50 v) (h : DataW.Trod enc Try.prog w base (fun _ => true) held 50 v d p) (hsz : ∀ n ∈ d.weights Try.prog 50, n ≤ reachBytes) :
    ∃ ao len cap f, v = .slice ao len cap ∧ ArgS w ao len cap f := by
  obtain ⟨ao, len, cap, rfl⟩ := okWide_slice Try.underlying50 hv
  obtain ⟨fuel, hf⟩ := h
  have hf' : DataW.trod enc Try.prog w base (fun _ => true) held fuel 50 [.slice ao len cap] = some (d, p) := hf
  exact open_row hf' hsz
set_option maxRecDepth 100000 in
theorem open_rowRoom {r : Reach} {b0 : Nat} {v : Value} {d : DataW H} {p : List MemPlace} (hv : Value.okWide Try.prog w r b0 50 v) (h : DataW.Trod enc Try.prog w base (fun _ => true) held 50 v d p) (hsz : ∀ n ∈ d.weights Try.prog 50, n ≤ reachBytes) :
    ∃ ao len cap f, v = .slice ao len cap ∧ ArgS w ao len cap f ∧ len ≤ cap := by
  obtain ⟨ao, len, cap, f, rfl, ha⟩ := open_rowArg hv h hsz
  refine ⟨ao, len, cap, f, rfl, ha, ?_⟩
  obtain ⟨fuel, hf⟩ := h
  have hf' : DataW.trod enc Try.prog w base (fun _ => true) held fuel 50 [.slice ao len cap] = some (d, p) := hf
  rcases open_ints Try.underlying50 Try.underlying3 cellsInt hf' with ⟨hcs, _⟩ | ⟨a, l, c, zs, hcs, _, hl, _⟩
  · simp at hcs
    omega
  · simp at hcs
    omega
end

end Go.Proofs.Ytngmeaaglogieab

namespace Go.Proofs.Ytngmeaaglogieab
open Go.RowKit

/-- A filter's state. -/
structure St where
  X : Int
  V : Int
  P00 : Int
  P01 : Int
  P11 : Int
  B : Bool
  M : Int
/-- All its numbers have 64 bits. -/
structure St.Ok (s : St) : Prop where
  X : R64 s.X
  V : R64 s.V
  P00 : R64 s.P00
  P01 : R64 s.P01
  P11 : R64 s.P11
  M : R64 s.M
/-- A sum, a difference, a product, stopped. -/
def adV (a b : Int) : Int := clampZ (a + b)
def sbC (a b : Int) : Int := clampZ (a - b)
def muV (a b : Int) : Int := clampZ (mulQ a b)
def adB (a b : Int) : Bool := bentZ (a + b)
def sbE (a b : Int) : Bool := bentZ (a - b)
def muB (a b : Int) : Bool := bentZ (mulQ a b)
theorem adV_R (a b : Int) : R64 (adV a b) := clampZ_R _
theorem sbC_R (a b : Int) : R64 (sbC a b) := clampZ_R _
theorem muV_R (a b : Int) : R64 (muV a b) := clampZ_R _

/-- The state a while later. -/
def predS (s : St) (dt q : Int) : St where
  X := adV s.X (muV s.V dt)
  V := s.V
  P00 := adV (adV (adV s.P00 (muV s.P01 dt)) (muV s.P01 dt)) (muV (muV s.P11 dt) dt)
  P01 := adV s.P01 (muV s.P11 dt)
  P11 := adV s.P11 q
  B := s.B || muB s.P01 dt || muB s.P11 dt || muB s.V dt || adB s.X (muV s.V dt) || adB s.P00 (muV s.P01 dt) || adB (adV s.P00 (muV s.P01 dt)) (muV s.P01 dt) || muB (muV s.P11 dt) dt ||
    adB (adV (adV s.P00 (muV s.P01 dt)) (muV s.P01 dt)) (muV (muV s.P11 dt) dt) || adB s.P01 (muV s.P11 dt) || adB s.P11 q
  M := s.M
theorem predS_ok {s : St} (h : s.Ok) (dt q : Int) : (predS s dt q).Ok := ⟨adV_R _ _, h.V, adV_R _ _, adV_R _ _, adV_R _ _, h.M⟩

/-- One more reading passed over. -/
def moreM (m : Int) : Int := wrap64 (m + 1)
/-- How far a reading is off, how unsure the two are together, whether it is passed over. -/
def offY (s : St) (z : Int) : Int := sbC z s.X
def offW (s : St) (r : Int) : Int := adV s.P00 r
def overB (s : St) (z r gate : Int) : Bool := decide (offW s r ≤ 0) || decide (muV gate (offW s r) < muV (offY s z) (offY s z))
/-- A reading that is y off is taken, where the state was bent x. -/
def takeS (s : St) (y w : Int) : St where
  X := adV s.X (muV (divV s.P00 w) y)
  V := adV s.V (muV (divV s.P01 w) y)
  P00 := sbC s.P00 (muV (divV s.P00 w) s.P00)
  P01 := sbC s.P01 (muV (divV s.P00 w) s.P01)
  P11 := sbC s.P11 (muV (divV s.P01 w) s.P01)
  B := s.B || divB s.P00 w || divB s.P01 w || muB (divV s.P00 w) y || adB s.X (muV (divV s.P00 w) y) || muB (divV s.P01 w) y || adB s.V (muV (divV s.P01 w) y) ||
    muB (divV s.P00 w) s.P00 || sbE s.P00 (muV (divV s.P00 w) s.P00) || muB (divV s.P00 w) s.P01 || sbE s.P01 (muV (divV s.P00 w) s.P01) || muB (divV s.P01 w) s.P01 || sbE s.P11 (muV (divV s.P01 w) s.P01)
  M := 0
/-- What the steps ahead of taking a reading bend. -/
def bentU (s : St) (z r gate : Int) : Bool := s.B || sbE z s.X || adB s.P00 r || muB (offY s z) (offY s z) || muB gate (offW s r)
def updS (s : St) (z r gate : Int) : St := if overB s z r gate then { s with M := moreM s.M } else takeS { s with B := bentU s z r gate } (offY s z) (offW s r)
def updT (s : St) (z r gate : Int) : Bool := !overB s z r gate
theorem moreM_R (m : Int) : R64 (moreM m) := by unfold moreM R64; unfold wrap64; omega
theorem updS_ok {s : St} (h : s.Ok) (z r gate : Int) : (updS s z r gate).Ok := by
  unfold updS; split
  · exact ⟨h.X, h.V, h.P00, h.P01, h.P11, moreM_R _⟩
  · exact ⟨adV_R _ _, adV_R _ _, sbC_R _ _, sbC_R _ _, sbC_R _ _, R64_nought⟩

/-- How a filter works. -/
structure Tn where
  Dt : Int
  Q : Int
  R : Int
  G : Int
structure Tn.Ok (t : Tn) : Prop where
  Dt : R64 t.Dt
  Q : R64 t.Q
  R : R64 t.R
  G : R64 t.G
def stepS (s : St) (t : Tn) (z : Int) : St := updS (predS s t.Dt t.Q) z t.R t.G
def stepT (s : St) (t : Tn) (z : Int) : Bool := updT (predS s t.Dt t.Q) z t.R t.G
theorem stepS_ok {s : St} (h : s.Ok) (t : Tn) (z : Int) : (stepS s t z).Ok := updS_ok (predS_ok h _ _) _ _ _
/-- Step by step. -/
def runS (s : St) (t : Tn) (f : Nat → Int) : Nat → St
  | 0 => s
  | k + 1 => stepS (runS s t f k) t (f k)
def runN (s : St) (t : Tn) (f : Nat → Int) : Nat → Nat
  | 0 => 0
  | k + 1 => runN s t f k + (if stepT (runS s t f k) t (f k) then 1 else 0)
theorem runS_ok {s : St} (h : s.Ok) (t : Tn) (f : Nat → Int) : ∀ k, (runS s t f k).Ok
  | 0 => h
  | k + 1 => stepS_ok (runS_ok h t f k) t _
theorem runN_le (s : St) (t : Tn) (f : Nat → Int) : ∀ k, runN s t f k ≤ k
  | 0 => Nat.le_refl _
  | k + 1 => by have := runN_le s t f k; show runN s t f k + _ ≤ k + 1; split <;> omega
theorem runS_cut (s : St) (t : Tn) (f : Nat → Int) (a : Nat) : ∀ b, runS s t f (a + b) = runS (runS s t f a) t (fun i => f (a + i)) b
  | 0 => rfl
  | b + 1 => by show stepS (runS s t f (a + b)) t (f (a + b)) = _; rw [runS_cut s t f a b]; rfl
theorem runN_cut (s : St) (t : Tn) (f : Nat → Int) (a : Nat) : ∀ b, runN s t f (a + b) = runN s t f a + runN (runS s t f a) t (fun i => f (a + i)) b
  | 0 => rfl
  | b + 1 => by
    show runN s t f (a + b) + (if stepT (runS s t f (a + b)) t (f (a + b)) then 1 else 0) = _
    rw [runN_cut s t f a b, runS_cut s t f a b, Nat.add_assoc]; rfl
/-- What was bent stays bent. -/
theorem takeS_bent {s : St} (h : s.B = true) (y w : Int) : (takeS s y w).B = true := by simp [takeS, h]
theorem predS_bent {s : St} (h : s.B = true) (dt q : Int) : (predS s dt q).B = true := by simp [predS, h]
theorem updS_bent {s : St} (h : s.B = true) (z r gate : Int) : (updS s z r gate).B = true := by
  unfold updS; split
  · exact h
  · exact takeS_bent (by simp [bentU, h]) _ _
theorem runS_bent {s : St} (h : s.B = true) (t : Tn) (f : Nat → Int) : ∀ k, (runS s t f k).B = true
  | 0 => h
  | k + 1 => updS_bent (predS_bent (runS_bent h t f k) _ _) _ _ _

end Go.Proofs.Ytngmeaaglogieab
