/- Joined: OpenByte, BusSpec. -/
import Derived.Test.YthjeedlhlkggkabRows
import Derived.Test.YthjeedlhlkggkabByteMem
import Derived.Lib.SmallJoins
import Derived.OpenShut
import Derived.SizedLaws
import Derived.ChangeSlices
import Derived.Test.YthjeedlhlkggkabFixPlain
namespace Go.Proofs.Ythjeedlhlkggkab
open Go.ChangeShapes Go.WideShapes Go.ChangeAt Go.RowKit Go.Joins

/-- Bytes that were handed in. -/
def ArgB (w : World) (ao : Option Addr) (len cap : Nat) (g : Nat → Nat) : Prop :=
  Sr w ao len cap (bF g) ∧ len ≤ 140737488351232 ∧ (∀ i, g i < 256) ∧ len ≤ cap
theorem ArgB.below {w w' : World} {ao : Option Addr} {len cap : Nat} {g : Nat → Nat} (h : ArgB w ao len cap g) (k : Below w.heap.size w w') : ArgB w' ao len cap g := ⟨h.1.below k, h.2⟩

theorem bytesByte : Try.prog.bytesOf 5 = 1 := by kernel_rfl
theorem cellsByte : Try.prog.cellsOf 5 = 1 := by kernel_rfl

section
variable {H : Type} {enc : TypeId × Value → H} {w : World} {base : Nat} {held : Bool}

set_option maxRecDepth 100000 in
theorem open_bytes {fuel : Nat} {v : Value} {x : DataW H × List MemPlace} (h : DataW.trod enc Try.prog w base (fun _ => true) held fuel 30 [v] = some x) (hsz : ∀ n ∈ x.1.weights Try.prog 30, n ≤ reachBytes) :
    ∃ ao len cap g, v = .slice ao len cap ∧ ArgB w ao len cap g := by
  rcases open_ints Try.underlying30 Try.underlying5 cellsByte h with ⟨hcs, _⟩ | ⟨a, len, cap, zs, hcs, _, hl, _, hz, hx, hcell, hwz⟩
  · simp at hcs
    exact ⟨none, 0, 0, fun _ => 0, hcs, Or.inl ⟨rfl, rfl, rfl⟩, by decide, fun _ => by show 0 < 256; omega, Nat.le_refl _⟩
  · simp at hcs
    have hz' : zs.length = cap := by simpa using hz
    have hb : zs.length * 1 ≤ reachBytes := by
      refine hsz _ ?_
      rw [hx]
      simp [DataW.weights, Try.underlying30, bytesByte, lits]
      left; omega
    have hw : ∀ i, i < zs.length → 0 ≤ zs.getD i 0 ∧ zs.getD i 0 < 256 := by
      intro i hi
      have e : zs.getD i 0 = zs[i] := by simp [List.getD, hi]
      have := hwz _ (List.getElem_mem hi)
      rw [e]
      simp [Lit.wf, IntKind.min, IntKind.max, IntKind.bits, IntKind.signed] at this
      omega
    refine ⟨some a, len, cap, fun i => if i < len then (zs.getD i 0).toNat else 0, hcs, Or.inr ⟨a, rfl, fun i hi => ?_⟩, by unfold reachBytes at hb; omega, fun i => ?_, hl⟩
    · rw [hcell i (by omega)]
      show some (Value.int .u8 (zs.getD i 0)) = some (Value.int .u8 ((if i < len then (zs.getD i 0).toNat else 0 : Nat) : Int))
      rw [if_pos hi, Int.toNat_of_nonneg (hw i (by omega)).1]
    · show (if i < len then (zs.getD i 0).toNat else 0) < 256
      split
      · have := hw i (by omega); omega
      · omega
set_option maxRecDepth 100000 in
theorem open_bytesArg {r : Reach} {b0 : Nat} {v : Value} {d : DataW H} {p : List MemPlace} (hv : Value.okWide Try.prog w r b0 30 v) (h : DataW.Trod enc Try.prog w base (fun _ => true) held 30 v d p) (hsz : ∀ n ∈ d.weights Try.prog 30, n ≤ reachBytes) :
    ∃ ao len cap g, v = .slice ao len cap ∧ ArgB w ao len cap g := by
  obtain ⟨ao, len, cap, rfl⟩ := okWide_slice Try.underlying30 hv
  obtain ⟨fuel, hf⟩ := h
  have hf' : DataW.trod enc Try.prog w base (fun _ => true) held fuel 30 [.slice ao len cap] = some (d, p) := hf
  exact open_bytes hf' hsz
theorem bulk_lits {k : IntKind} (zs : List Int) : Rows.uptoBulkAll (lits (H := H) k zs) = zs.length := by
  induction zs with
  | nil => rfl
  | cons z zs ih =>
    show Rows.uptoBulkAll (DataW.lit (.int k z) :: lits k zs) = _
    simp only [Rows.uptoBulkAll, Rows.uptoBulk, ih, List.length_cons]
    omega
/-- The same, with what the reading's bulk says of the length. -/
theorem open_bytesUp {r : Reach} {b0 : Nat} {v : Value} {d : DataW H} {p : List MemPlace} (hv : Value.okWide Try.prog w r b0 30 v) (h : DataW.Trod enc Try.prog w base (fun _ => true) held 30 v d p) (hsz : ∀ n ∈ d.weights Try.prog 30, n ≤ reachBytes) :
    ∃ ao len cap g, v = .slice ao len cap ∧ ArgB w ao len cap g ∧ len ≤ Rows.uptoBulk d := by
  obtain ⟨ao, len, cap, g, rfl, ha⟩ := open_bytesArg hv h hsz
  refine ⟨ao, len, cap, g, rfl, ha, ?_⟩
  obtain ⟨fuel, hf⟩ := h
  have hf' : DataW.trod enc Try.prog w base (fun _ => true) held fuel 30 [.slice ao len cap] = some (d, p) := hf
  rcases open_ints Try.underlying30 Try.underlying5 cellsByte hf' with ⟨hcs, _⟩ | ⟨a, l, c, zs, hcs, _, hl, _, hz, hx, _⟩
  · simp at hcs
    omega
  · simp at hcs
    have hz' : zs.length = c := by simpa using hz
    have e : d = .slice (lits .u8 (zs.take l)) (lits .u8 (zs.drop l)) := congrArg Prod.fst hx
    rw [e]
    simp only [Rows.uptoBulk, bulk_lits, List.length_take]
    omega
end

end Go.Proofs.Ythjeedlhlkggkab

namespace Go.Proofs.Ythjeedlhlkggkab

/-- A parcel. -/
structure Pc where
  fr : Int
  to : Int
  du : Int
  se : Int
  ds : List Nat
/-- A bus. -/
structure Bs where
  now : Int
  ser : Int
  q : List Pc
def zeroBs : Bs := ⟨0, 0, []⟩
/-- A number of 64 bits, one more. -/
def wrapS (x : Int) : Int := if x = 9223372036854775807 then -9223372036854775808 else x + 1
theorem wrapS_R {x : Int} (h : R64 x) : R64 (wrapS x) := by unfold wrapS R64 at *; split <;> omega
/-- What is wrong with a parcel that is to be sent; the bus with it. -/
def sendE (N : Int) (n : Nat) (f t d : Int) (k : Nat) : Nat :=
  if f < 0 ∨ 3 < f ∨ t < 0 ∨ 3 < t ∨ f = t ∨ d < 0 ∨ 1000 < d ∨ N < 0 ∨ 1099511627776 < N then 3 else if 220 < k then 1 else if 400 ≤ n then 6 else 0
def sendS (b : Bs) (f t : Int) (ds : List Nat) (d : Int) : Bs := if sendE b.now b.q.length f t d ds.length = 0 then ⟨b.now, wrapS b.ser, b.q ++ [⟨f, t, b.now + d, b.ser, ds⟩]⟩ else zeroBs
/-- Which of two parcels goes ahead. -/
def leP (a b : Pc) : Bool := decide (a.du < b.du ∨ (a.du = b.du ∧ a.se ≤ b.se))
theorem leP_total {a b : Pc} (h : leP a b = false) : leP b a = true := by
  unfold leP at *
  simp only [decide_eq_false_iff_not, decide_eq_true_eq] at *
  omega
theorem leP_trans {a b c : Pc} (h : leP a b = true) (k : leP b c = true) : leP a c = true := by
  unfold leP at *
  simp only [decide_eq_true_eq] at *
  omega
theorem leP_refl (a : Pc) : leP a a = true := by unfold leP; simp
/-- Put in its place; sorted, those alike as they stood. -/
def insP (p : Pc) : List Pc → List Pc
  | [] => [p]
  | q :: l => if leP p q = true then p :: q :: l else q :: insP p l
def srtP : List Pc → List Pc
  | [] => []
  | p :: l => insP p (srtP l)
theorem insP_len (p : Pc) (l : List Pc) : (insP p l).length = l.length + 1 := by
  induction l with
  | nil => rfl
  | cons q l ih => unfold insP; split <;> simp [ih]
theorem srtP_len (l : List Pc) : (srtP l).length = l.length := by
  induction l with
  | nil => rfl
  | cons q l ih => show (insP q (srtP l)).length = _; rw [insP_len, ih]; rfl
theorem insP_mem {p x : Pc} {l : List Pc} : x ∈ insP p l ↔ x = p ∨ x ∈ l := by
  induction l with
  | nil => simp [insP]
  | cons q l ih =>
    unfold insP
    split
    · simp
    · simp only [List.mem_cons, ih]
      constructor
      · rintro (h | h | h)
        · exact Or.inr (Or.inl h)
        · exact Or.inl h
        · exact Or.inr (Or.inr h)
      · rintro (h | h | h)
        · exact Or.inr (Or.inl h)
        · exact Or.inl h
        · exact Or.inr (Or.inr h)
theorem srtP_mem {x : Pc} {l : List Pc} : x ∈ srtP l ↔ x ∈ l := by
  induction l with
  | nil => exact Iff.rfl
  | cons q l ih => show x ∈ insP q (srtP l) ↔ _; rw [insP_mem, ih]; simp
/-- Sorted. -/
def SoP : List Pc → Prop
  | [] => True
  | p :: l => (∀ q, q ∈ l → leP p q = true) ∧ SoP l
theorem soP_ins {p : Pc} {l : List Pc} (h : SoP l) : SoP (insP p l) := by
  induction l with
  | nil => exact ⟨fun _ h => absurd h (by simp), trivial⟩
  | cons q l ih =>
    unfold insP
    split
    · rename_i hp
      refine ⟨fun x hx => ?_, h⟩
      rcases List.mem_cons.1 hx with rfl | hx
      · exact hp
      · exact leP_trans hp (h.1 x hx)
    · rename_i hp
      refine ⟨fun x hx => ?_, ih h.2⟩
      rcases insP_mem.1 hx with rfl | hx
      · exact leP_total (by simpa using hp)
      · exact h.1 x hx
theorem soP_srt (l : List Pc) : SoP (srtP l) := by
  induction l with
  | nil => trivial
  | cons p l ih => exact soP_ins ih
theorem insP_head {p : Pc} {l : List Pc} (h : ∀ q, q ∈ l → leP p q = true) : insP p l = p :: l := by
  cases l with
  | nil => rfl
  | cons q l => unfold insP; rw [if_pos (h q (List.mem_cons_self ..))]
/-- The first of the least ones comes first. -/
theorem srtP_first (A : List Pc) (m : Pc) (C : List Pc) (hA : ∀ a, a ∈ A → leP a m = false) (hC : ∀ c, c ∈ C → leP m c = true) : srtP (A ++ m :: C) = m :: srtP (A ++ C) := by
  induction A with
  | nil => exact insP_head (fun q hq => hC q (srtP_mem.1 hq))
  | cons a A ih =>
    show insP a (srtP (A ++ m :: C)) = m :: insP a (srtP (A ++ C))
    rw [ih (fun x hx => hA x (List.mem_cons_of_mem _ hx))]
    show (if leP a m = true then _ else _) = _
    rw [if_neg (by rw [hA a (List.mem_cons_self ..)]; decide)]
/-- Whether a parcel has come by then. -/
def dueP (t : Int) (p : Pc) : Bool := decide (p.du ≤ t)
def stepE (N t : Int) : Nat := if t < N ∨ 1099511627776 < t then 3 else 0
def stepS (b : Bs) (t : Int) : Bs := if stepE b.now t = 0 then ⟨t, b.ser, b.q.filter (fun p => !dueP t p)⟩ else zeroBs
def comeS (b : Bs) (t : Int) : List Pc := if stepE b.now t = 0 then srtP (b.q.filter (dueP t)) else []
/-- The place of the first parcel of that serial. -/
def fsP (s : Int) : List Pc → Nat
  | [] => 0
  | p :: l => if p.se = s then 0 else fsP s l + 1
theorem fsP_le (s : Int) (l : List Pc) : fsP s l ≤ l.length := by
  induction l with
  | nil => exact Nat.le_refl _
  | cons p l ih => unfold fsP; split <;> simp <;> omega
theorem fsP_not {s : Int} {l : List Pc} : ∀ {i : Nat} {p : Pc}, i < fsP s l → l[i]? = some p → p.se ≠ s := by
  induction l with
  | nil => intro i p h; exact absurd h (by unfold fsP; omega)
  | cons q l ih =>
    intro i p h hp
    unfold fsP at h
    split at h
    · omega
    · rename_i hq
      cases i with
      | zero => simp at hp; subst hp; exact hq
      | succ i => simp at hp; exact ih (by omega) hp
theorem fsP_at {s : Int} {l : List Pc} : ∀ {p : Pc}, l[fsP s l]? = some p → p.se = s := by
  induction l with
  | nil => intro p h; simp at h
  | cons q l ih =>
    intro p hp
    unfold fsP at hp
    split at hp
    · rename_i hq; simp at hp; subst hp; exact hq
    · simp at hp; exact ih hp
/-- Where the first one of that serial stands, from what stands ahead of it. -/
theorem fsP_is {s : Int} {l : List Pc} : ∀ {i : Nat}, (∀ j p, j < i → l[j]? = some p → p.se ≠ s) → (∀ p, l[i]? = some p → p.se = s) → i ≤ l.length → fsP s l = i := by
  induction l with
  | nil => intro i _ _ h; simp at h; subst h; rfl
  | cons q l ih =>
    intro i h1 h2 h3
    unfold fsP
    cases i with
    | zero => rw [if_pos (h2 q rfl)]
    | succ i =>
      rw [if_neg (h1 0 q (by omega) rfl), ih (i := i) (fun j p hj hp => h1 (j + 1) p (by omega) (by simpa using hp)) (fun p hp => h2 p (by simpa using hp)) (by simp at h3; omega)]
def loseE (b : Bs) (s : Int) : Nat := if fsP s b.q < b.q.length then 0 else 7
def loseS (b : Bs) (s : Int) : Bs := if fsP s b.q < b.q.length then ⟨b.now, b.ser, b.q.eraseIdx (fsP s b.q)⟩ else zeroBs
/-- A parcel with a byte turned. -/
def turP (a m : Nat) (p : Pc) : Pc := ⟨p.fr, p.to, p.du, p.se, p.ds.set a (p.ds.getD a 0 ^^^ m)⟩
def turnE (b : Bs) (s a m : Int) : Nat :=
  match b.q[fsP s b.q]? with
  | none => 7
  | some p => if a < 0 ∨ (p.ds.length : Int) ≤ a ∨ m < 0 ∨ 255 < m then 3 else 0
def turnS (b : Bs) (s a m : Int) : Bs := if turnE b s a m = 0 then ⟨b.now, b.ser, b.q.modify (fsP s b.q) (turP a.toNat m.toNat)⟩ else zeroBs
theorem turP_len (a m : Nat) (p : Pc) : (turP a m p).ds.length = p.ds.length := by unfold turP; simp

end Go.Proofs.Ythjeedlhlkggkab
