/- Joined: WireOK, ClSpec. -/
import Derived.Test.YthimcecbgpamdaaGreatNear91
import Derived.Test.YthimcecbgpamdaaGreatSumOpen
import Derived.Test.YthimcecbgpamdaaGreatNear149
namespace Go.Proofs.YthimcecbgpamdaaGreat
open Go.RowKit

theorem moreN_congr {s : Int} {g h : Nat → Nat} {n : Nat} (e : ∀ i, i < n → g i = h i) : moreN s g n = moreN s h n := by unfold moreN; rw [cF_congr _ n e]
/-- A message's bytes, sealed, and how many. -/
def enS (K F R : Int) (n : Nat) (f : Nat → Int) : Nat → Nat := slF (enF K F R n f) (8 + 8 * n)
def enL (K F R : Int) (n : Nat) : Nat := if wrongM K F R n = 0 then 12 + 8 * n else 0
theorem enS_lt (K F R : Int) (n : Nat) (f : Nat → Int) (i : Nat) : enS K F R n f i < 256 := slF_lt (enF_lt K F R n f) _ _
theorem enL_le (K F R : Int) (n : Nat) : enL K F R n ≤ 204 := by
  unfold enL
  split
  · rename_i h
    have := wrongM_right h
    omega
  · omega
/-- What Encode is held to. -/
def EnOK (fn : Nat) : Prop := ∀ (K F R : Int) (ao : Option Addr) (n cap : Nat) (f : Nat → Int) (w : World), R64 K → R64 F → R64 R → (∀ i, R64 (f i)) → n * 8 ≤ 140737488351232 → n ≤ cap → Sr w ao n cap (iF f) →
  Calls Tryz.prog fn #[msV K F R (.slice ao n cap)] w fun e w' => ∃ v, e = .returned (.tuple #[v, .int .i64 (wrongM K F R n)]) ∧ w'.ownsRow w.heap.size 5 1 v (enL K F R n) (rowV (bF (enS K F R n f)) (enL K F R n)) ∧ Below w.heap.size w w'

/-- What is wrong of bytes. -/
def dcE (g : Nat → Nat) (len : Nat) (e : Int) : Prop :=
  (220 < len ∧ e = 1) ∨ (len ≤ 220 ∧ (len < 12 ∨ g 0 ≠ 87) ∧ e = 2) ∨ (len ≤ 220 ∧ 12 ≤ len ∧ g 0 = 87 ∧
    ((¬ opG g len ∧ e = 5) ∨ (opG g len ∧ ((24 < g 7 ∧ e = 6) ∨ (g 7 ≤ 24 ∧ ((len ≠ 12 + 8 * g 7 ∧ e = 2) ∨ (len = 12 + 8 * g 7 ∧ e = wrongM (g 1 : Nat) (g 2 : Nat) (dR g : Nat) (g 7))))))))
theorem dcE_one {g : Nat → Nat} {len : Nat} {e e' : Int} (h : dcE g len e) (h' : dcE g len e') : e = e' := by grind [dcE]
theorem dcE_right {g : Nat → Nat} {len : Nat} (h : dcE g len 0) : 12 ≤ len ∧ len ≤ 220 ∧ g 0 = 87 ∧ opG g len ∧ g 7 ≤ 24 ∧ len = 12 + 8 * g 7 ∧ wrongM (g 1 : Nat) (g 2 : Nat) (dR g : Nat) (g 7) = 0 := by grind [dcE]
/-- A number of the message, or nought where there is none. -/
def dN (e : Int) (x : Nat) : Nat := if e = 0 then x else 0
/-- What Decode is held to. -/
def DcOK (fn : Nat) : Prop := ∀ (ao : Option Addr) (len cap : Nat) (g : Nat → Nat) (w : World), (∀ i, g i < 256) → len ≤ 140737488351232 → len ≤ cap → Sr w ao len cap (bF g) →
  Calls Tryz.prog fn #[.slice ao len cap] w fun e w' => ∃ (E : Int) (v : Value), dcE g len E ∧ e = .returned (.tuple #[msV (dN E (g 1) : Nat) (dN E (g 2) : Nat) (dN E (dR g) : Nat) v, .int .i64 E]) ∧ w'.ownsRow w.heap.size 3 1 v (dN E (g 7)) (rowV (iF (dV g)) (dN E (g 7))) ∧ Below w.heap.size w w'

/-- A right message's bytes. -/
theorem enS_dc {K F R : Int} {n : Nat} {f : Nat → Int} (h : wrongM K F R n = 0) : dcE (enS K F R n f) (12 + 8 * n) 0 := by
  obtain ⟨h1, h2, h3, h4, h5, h6, h7⟩ := wrongM_right h
  have lo : ∀ i, i < 8 + 8 * n → enS K F R n f i = enF K F R n f i := fun i hi => by unfold enS slF; rw [if_pos hi]
  have e0 : enS K F R n f 0 = 87 := by rw [lo 0 (by omega)]; rfl
  have e1 : (enS K F R n f 1 : Int) = K := by rw [lo 1 (by omega)]; show ((K % 256).toNat : Int) = K; omega
  have e2 : (enS K F R n f 2 : Int) = F := by rw [lo 2 (by omega)]; show ((F % 256).toNat : Int) = F; omega
  have e7 : enS K F R n f 7 = n := by rw [lo 7 (by omega)]; show n % 256 = n; omega
  have eR : (dR (enS K F R n f) : Int) = R := back_R h5 h6 lo
  refine Or.inr (Or.inr ⟨by omega, by omega, e0, Or.inr ⟨?_, Or.inr ⟨by omega, Or.inr ⟨by omega, ?_⟩⟩⟩⟩)
  · refine ⟨by omega, fun i hi => ?_⟩
    have e : 12 + 8 * n - 4 = 8 + 8 * n := by omega
    rw [e]
    have hm : moreN 0 (enS K F R n f) (8 + 8 * n) = moreN 0 (enF K F R n f) (8 + 8 * n) := moreN_congr lo
    rw [hm]
    unfold enS slF
    rw [if_neg (by omega), Nat.add_sub_cancel_left]
  · rw [e1, e2, e7, eR, h]
theorem enS_back {K F R : Int} {n : Nat} {f : Nat → Int} (h : wrongM K F R n = 0) (hf : ∀ i, R64 (f i)) :
    (enS K F R n f 1 : Int) = K ∧ (enS K F R n f 2 : Int) = F ∧ (dR (enS K F R n f) : Int) = R ∧ enS K F R n f 7 = n ∧ ∀ j, j < n → dV (enS K F R n f) j = f j := by
  obtain ⟨h1, h2, h3, h4, h5, h6, h7⟩ := wrongM_right h
  have lo : ∀ i, i < 8 + 8 * n → enS K F R n f i = enF K F R n f i := fun i hi => by unfold enS slF; rw [if_pos hi]
  refine ⟨?_, ?_, back_R h5 h6 lo, ?_, fun j hj => back_V hf lo hj⟩
  · rw [lo 1 (by omega)]; show ((K % 256).toNat : Int) = K; omega
  · rw [lo 2 (by omega)]; show ((F % 256).toNat : Int) = F; omega
  · rw [lo 7 (by omega)]; show n % 256 = n; omega
/-- Bytes that are decoded are what the message is encoded as. -/
theorem dc_only {g : Nat → Nat} {len : Nat} (hg : ∀ i, g i < 256) (h : dcE g len 0) : ∀ i, i < len → enS (g 1 : Nat) (g 2 : Nat) (dR g : Nat) (g 7) (dV g) i = g i := by
  obtain ⟨h1, h2, h3, h4, h5, h6, h7⟩ := dcE_right h
  intro i hi
  have lo : ∀ i, i < 8 + 8 * g 7 → enF (g 1 : Nat) (g 2 : Nat) (dR g : Nat) (g 7) (dV g) i = g i := fun i hi => only_en hg h3 i hi
  unfold enS slF
  by_cases c : i < 8 + 8 * g 7
  · rw [if_pos c, lo i c]
  · rw [if_neg c, moreN_congr lo]
    have := h4.2 (i - (8 + 8 * g 7)) (by omega)
    rw [show len - 4 = 8 + 8 * g 7 by omega, show 8 + 8 * g 7 + (i - (8 + 8 * g 7)) = i by omega] at this
    exact this.symm

end Go.Proofs.YthimcecbgpamdaaGreat

namespace Go.Proofs.YthimcecbgpamdaaGreat
open Go.RowKit

/-- A lie: its phase, to whom, how many bytes, which. -/
structure Ly where
  ph : Int
  wo : Int
  n : Nat
  g : Nat → Nat
/-- What happens in a frame. -/
structure Ip where
  rd : Nat → Nat → Int
  bad : Int
  ly : List Ly
/-- Four computers. -/
structure Cl where
  fr : Int
  nd : Nat → Nd
def zeroC : Cl := ⟨0, fun _ => zeroN⟩
def begC (t : Tn) : Cl := ⟨0, fun i => begN i t⟩
instance (g : Nat → Nat) (n : Nat) : Decidable (opG g n) := by unfold opG; infer_instance
/-- Are bytes a message's? -/
def dcB (g : Nat → Nat) (n : Nat) : Bool := decide (12 ≤ n) && decide (n ≤ 220) && decide (g 0 = 87) && decide (opG g n) && decide (g 7 ≤ 24) && decide (n = 12 + 8 * g 7) && decide (wrongM (g 1 : Nat) (g 2 : Nat) (dR g : Nat) (g 7) = 0)
theorem dcB_iff {g : Nat → Nat} {n : Nat} : dcB g n = true ↔ dcE g n 0 := by
  unfold dcB
  simp only [Bool.and_eq_true, decide_eq_true_eq]
  constructor
  · rintro ⟨⟨⟨⟨⟨⟨h1, h2⟩, h3⟩, h4⟩, h5⟩, h6⟩, h7⟩
    exact Or.inr (Or.inr ⟨h2, h1, h3, Or.inr ⟨h4, Or.inr ⟨h5, Or.inr ⟨h6, h7.symm⟩⟩⟩⟩)
  · intro h
    obtain ⟨h1, h2, h3, h4, h5, h6, h7⟩ := dcE_right h
    exact ⟨⟨⟨⟨⟨⟨h1, h2⟩, h3⟩, h4⟩, h5⟩, h6⟩, h7⟩
theorem dcB_no {g : Nat → Nat} {n : Nat} {e : Int} (h : dcE g n e) (he : e ≠ 0) : dcB g n = false := by
  cases c : dcB g n with
  | false => rfl
  | true => exact absurd (dcE_one h (dcB_iff.1 c)) he
/-- The message of bytes. -/
def dcM (n : Nat) (g : Nat → Nat) : List Ms := if dcB g n = true then [⟨(g 1 : Nat), (g 2 : Nat), (dR g : Nat), (List.range (g 7)).map (dV g)⟩] else []
/-- What the bad one sends to one in a phase. -/
def liM (bad wo ph : Int) (l : List Ly) : List Ms := l.flatMap fun y => if y.ph = ph ∧ y.wo = wo then (dcM y.n y.g).filter fun m => decide (m.F = bad) else []
/-- A message as it comes over the wire. -/
def wrM (m : Ms) : List Ms := if wrongM m.K m.F m.R m.L.length = 0 then [m] else []
/-- What one gets of what the first k send in a phase. -/
def bxM (x : Ip) (told : Nat → Ms) (wo ph : Nat) : Nat → List Ms
  | 0 => []
  | k + 1 => bxM x told wo ph k ++ (if k = wo then [] else if (k : Int) = x.bad then liM x.bad wo ph x.ly else wrM (told k))
/-- A phase of one computer. -/
def phN (k : Nat) (n : Nd) (fr : Int) (rd : Nat → Int) (l : List Ms) : Nd := if k = 0 then senN n fr rd else if k = 1 then relN n l else if k = 2 then decN n l else if k = 3 then pasN n l else judN n l
def phM (k : Nat) (n : Nd) (fr : Int) (rd : Nat → Int) (l : List Ms) : Ms := if k = 0 then senM n fr rd else if k = 1 then relM n l else if k = 2 then decM n l else if k = 3 then pasM n l else judM n l
/-- A frame at work. -/
structure Wk where
  nd : Nat → Nd
  bx : Nat → List Ms
def wkN (x : Ip) (fr : Int) (s : Wk) (k i : Nat) : Nd := if (i : Int) = x.bad then s.nd i else phN k (s.nd i) fr (x.rd i) (s.bx i)
def wkM (x : Ip) (fr : Int) (s : Wk) (k i : Nat) : Ms := if (i : Int) = x.bad then zeroM else phM k (s.nd i) fr (x.rd i) (s.bx i)
def wkS (x : Ip) (fr : Int) (s : Wk) (k : Nat) : Wk := ⟨wkN x fr s k, fun i => bxM x (wkM x fr s k) i k 4⟩
def wkK (x : Ip) (c : Cl) : Nat → Wk
  | 0 => ⟨c.nd, fun _ => []⟩
  | k + 1 => wkS x c.fr (wkK x c k) k
/-- Behind the frame. -/
def frN (x : Ip) (c : Cl) (i : Nat) : Nd := if (i : Int) = x.bad then c.nd i else cloN ((wkK x c 5).nd i) ((wkK x c 5).bx i)
/-- Those that put out, of the first k. -/
def gdL (bad : Int) (k : Nat) : List Nat := (List.range k).filter fun i => decide ((i : Int) ≠ bad)
def frE (x : Ip) (c : Cl) : Int := if x.bad < -1 ∨ 4 ≤ x.bad ∨ c.fr < 0 ∨ 1073741823 < c.fr then 3 else if 400 < x.ly.length then 6 else if (c.nd 0).id = 0 ∧ (c.nd 1).id = 1 ∧ (c.nd 2).id = 2 ∧ (c.nd 3).id = 3 then 0 else 7
def frC (x : Ip) (c : Cl) : Cl := if frE x c = 0 then ⟨c.fr + 1, frN x c⟩ else zeroC
def frR (x : Ip) (c : Cl) : List Nd := if frE x c = 0 then (gdL x.bad 4).map (frN x c) else []
/-- Frame by frame: the cluster, the reports, the error behind k of them. -/
structure Rn where
  c : Cl
  r : List Nd
  e : Int
def rnS (s : Rn) (x : Ip) : Rn := if s.e = 0 then (if frE x s.c = 0 then ⟨frC x s.c, s.r ++ frR x s.c, 0⟩ else ⟨zeroC, [], frE x s.c⟩) else s
def rnF (t : Tn) (l : List Ip) : Rn := if 200 < l.length then ⟨zeroC, [], 6⟩ else l.foldl rnS ⟨begC t, [], 0⟩

theorem frE_ok {x : Ip} {c : Cl} (h : frE x c = 0) : (-1 ≤ x.bad ∧ x.bad < 4) ∧ (0 ≤ c.fr ∧ c.fr ≤ 1073741823) ∧ x.ly.length ≤ 400 ∧ ∀ i, i < 4 → (c.nd i).id = (i : Nat) := by
  unfold frE at h
  split at h
  · omega
  · split at h
    · omega
    · split at h
      · rename_i h1 h2 h3
        refine ⟨by omega, by omega, by omega, fun i hi => ?_⟩
        have : i = 0 ∨ i = 1 ∨ i = 2 ∨ i = 3 := by omega
        rcases this with rfl | rfl | rfl | rfl
        · exact h3.1
        · exact h3.2.1
        · exact h3.2.2.1
        · exact h3.2.2.2
      · omega
theorem noN_at {i : Nat} (hi : i < 4) : noN (i : Nat) = false := by
  unfold noN
  rw [decide_eq_false (by omega), decide_eq_false (by omega)]
  rfl

end Go.Proofs.YthimcecbgpamdaaGreat
