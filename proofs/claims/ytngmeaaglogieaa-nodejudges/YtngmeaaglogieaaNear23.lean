/- Joined: LawNod3, Call6, NodTkn, AgrOK, RefAgr1. -/
import Derived.Test.YtngmeaaglogieaaNear37
import Derived.Test.YtngmeaaglogieaaNear45
import Derived.Test.YtngmeaaglogieaaNear14
import Derived.Test.YtngmeaaglogieaaNear46
import Derived.Test.YtngmeaaglogieaaNear10
import Derived.Test.YtngmeaaglogieaaNear41
import Derived.Test.YtngmeaaglogieaaNear34
namespace Go.Proofs.Ytngmeaaglogieaa
open Go.RowKit

theorem enter_msgs (x : Value) (w : World) : (callFunc 17 #[x]).run Try.prog w = .ok (.enter 17 #[x]) w := by go_simp
theorem enter_begun (w : World) : (callFunc 14 #[]).run Try.prog w = .ok (.enter 14 #[]) w := by go_simp
theorem enter_samen (x y : Value) (w : World) : (callFunc 10 #[x, y]).run Try.prog w = .ok (.enter 10 #[x, y]) w := by go_simp
theorem enter_samem (x y : Value) (w : World) : (callFunc 15 #[x, y]).run Try.prog w = .ok (.enter 15 #[x, y]) w := by go_simp
theorem sr_own {t : TypeId} {w : World} {B n c : Nat} {ao : Option Addr} {g : Nat → Value} (h : w.ownsRow B t 1 (.slice ao n c) n (rowV g n)) : Sr w ao n c g := by
  obtain ⟨ao2, cap, e, hs, _⟩ := owns_sr h
  cases e
  exact hs
theorem ms_rd {w w' : World} {B : Nat} {mo mo' : Option Addr} {k mc' : Nat} {L M : List Lm} (hM : M.map Lm.m = L.map Lm.m) (h : MRd w mo L) (o : OwnM w' B (.slice mo' k mc') M) : MRd w' mo' M := by
  refine o.rd (fun c hc => ?_)
  have : c.m ∈ L.map Lm.m := by rw [← hM]; exact List.mem_map_of_mem hc
  obtain ⟨d, hd, e⟩ := List.mem_map.1 this
  rw [← e]
  exact (h.2 d hd).2.2
theorem ms_R {L M : List Lm} (hM : M.map Lm.m = L.map Lm.m) (hRL : ∀ m, m ∈ L → ∀ i, R64 (gL m.m.L i)) : ∀ m, m ∈ M → ∀ i, R64 (gL m.m.L i) := by
  intro c hc
  have : c.m ∈ L.map Lm.m := by rw [← hM]; exact List.mem_map_of_mem hc
  obtain ⟨d, hd, e⟩ := List.mem_map.1 this
  rw [← e]
  exact hRL d hd
theorem ms_nil {w : World} : MRd w none [] := ⟨fun h => absurd h (by decide), fun c h => absurd h (List.not_mem_nil)⟩
theorem begN_ok : NdOK (begN 2 ⟨1, 0, 0, 0⟩) := by
  have z : R64 0 := ⟨by decide, by decide⟩
  have u : R64 4294967296 := ⟨by decide, by decide⟩
  exact ⟨⟨by decide, by decide⟩, z, tn1_ok, fun a => ⟨z, z, u, z, u, z⟩, fun i => z, fun i => z, fun s a => z, fun s => z, fun s a => z, fun a => z, z, z, by decide⟩

end Go.Proofs.Ytngmeaaglogieaa

namespace Go.Proofs.Ytngmeaaglogieaa
open Go

theorem wp_call6 (w : World) {P : Program} {Q : Exit → Act → World → Prop} {o : Oper} {a : Act} {K : Act → World → Prop} (n : Nat) (x y z u v x6 : Operand) (T : Array TypeId) (ho : o.op = .call { callee := .value (.func n), args := #[x, y, z, u, v, x6], argTypes := T }) {p q r s t p6 : Value} (hx : a.eval x = p) (hy : a.eval y = q) (hz : a.eval z = r) (hu : a.eval u = s) (hv : a.eval v = t) (h6 : a.eval x6 = p6) (hf : (callFunc n #[p, q, r, s, t, p6]).run P w = .ok (.enter n #[p, q, r, s, t, p6]) w) {R : Ending → World → Prop} (hc : Calls P n #[p, q, r, s, t, p6] w R)
    (h : ∀ e w', R e w' → ∃ r, e = .returned r ∧ K (a.put o.dst r) w') : WpI P o a w K Q := by
  refine ⟨?_⟩
  have e : (execOp a.eval o).run P w = .ok (.enter n #[p, q, r, s, t, p6]) w := by
    unfold execOp
    rw [ho]
    have hv2 : a.eval (Operand.func n) = .func (.func n) #[] #[] := rfl
    simp only [resolve, invoke, Sem.run_bind, List.map_toArray, List.map_cons, List.map_nil, hx, hy, hz, hu, hv, h6, hv2]
    go_simp
  unfold Oper.wp
  rw [e, Oper.upon_enter]
  refine hc.mono ?_
  intro e w' hr
  obtain ⟨r, rfl, hk⟩ := h e w' hr
  exact hk

theorem wp_call3n (w : World) {P : Program} {Q : Exit → Act → World → Prop} {o : Oper} {a : Act} {K : Act → World → Prop} (n : Nat) (x y z : Operand) (T : Array TypeId) (ho : o.op = .call { callee := .value (.func n), args := #[x, y, z], argTypes := T }) {p q r : Value} (hx : a.eval x = p) (hy : a.eval y = q) (hz : a.eval z = r) (hf : (callFunc n #[p, q, r]).run P w = .ok (.enter n #[p, q, r]) w) {R : Ending → World → Prop} (hc : Calls P n #[p, q, r] w R)
    (h : ∀ e w', R e w' → ∃ r, e = .returned r ∧ K (a.put o.dst r) w') : WpI P o a w K Q := by
  refine ⟨?_⟩
  have e : (execOp a.eval o).run P w = .ok (.enter n #[p, q, r]) w := by
    unfold execOp
    rw [ho]
    have hv2 : a.eval (Operand.func n) = .func (.func n) #[] #[] := rfl
    simp only [resolve, invoke, Sem.run_bind, List.map_toArray, List.map_cons, List.map_nil, hx, hy, hz, hv2]
    go_simp
  unfold Oper.wp
  rw [e, Oper.upon_enter]
  refine hc.mono ?_
  intro e w' hr
  obtain ⟨r, rfl, hk⟩ := h e w' hr
  exact hk


end Go.Proofs.Ytngmeaaglogieaa

namespace Go.Proofs.Ytngmeaaglogieaa
open Go.RowKit

theorem R64_zero : R64 0 := ⟨by decide, by decide⟩
theorem gL_R {l : List Int} (h : ∀ x, x ∈ l → R64 x) (i : Nat) : R64 (gL l i) := by
  unfold gL
  rw [List.getD_eq_getElem?_getD]
  rcases Nat.lt_or_ge i l.length with c | c
  · rw [List.getElem?_eq_getElem c]
    exact h _ (List.getElem_mem c)
  · rw [List.getElem?_eq_none c]
    exact R64_zero
theorem dc3_R {a b c : Int} (ha : R64 a) (hb : R64 b) : R64 (dc3 a b c) := by
  unfold dc3
  split
  · exact ha
  · split
    · exact ha
    · split
      · exact hb
      · exact R64_zero
theorem frst_mem {n : Nd} {L : List Lm} {s : Nat} {kind : Int} {many : Nat} {v : List Int} (h : frst n (L.map Lm.m) s kind many = some v) : ∃ c, c ∈ L ∧ c.m.L = v := by
  rw [← fL_frst] at h
  obtain ⟨c, h1, h2⟩ := Option.map_eq_some_iff.1 h
  exact ⟨c, List.mem_of_find?_eq_some h1, h2⟩
theorem tld_R {n : Nd} {L : List Lm} (hRL : ∀ m, m ∈ L → ∀ i, R64 (gL m.m.L i)) (i k many : Nat) : R64 (tldN n (L.map Lm.m) i k many) := by
  unfold tldN
  cases e : frst n (L.map Lm.m) i 2 many with
  | none => exact R64_zero
  | some v =>
    obtain ⟨c, h1, rfl⟩ := frst_mem e
    exact hRL c h1 k
theorem tkn_R {n : Nd} {L : List Lm} (hRL : ∀ m, m ∈ L → ∀ i, R64 (gL m.m.L i)) {s : Nat} {h : Int} {k many : Nat} (hh : R64 h) : R64 (tkn n (L.map Lm.m) s h k many) := by
  unfold tkn
  split
  · exact hh
  · exact dc3_R hh (tld_R hRL _ _ _)
theorem enter_taken (x y z u v s : Value) (w : World) : (callFunc 41 #[x, y, z, u, v, s]).run Try.prog w = .ok (.enter 41 #[x, y, z, u, v, s]) w := by go_simp

end Go.Proofs.Ytngmeaaglogieaa

namespace Go.Proofs.Ytngmeaaglogieaa
open Go.RowKit

def MjOK (fn : Nat) : Prop := ∀ (ao : Option Addr) (n cap : Nat) (f : Nat → Int) (other : Int) (w : World), (∀ i, R64 (f i)) → R64 other → n * 8 ≤ 140737488351232 → n ≤ cap → Sr w ao n cap (iF f) →
  Calls Try.prog fn #[.slice ao n cap, .int .i64 other] w fun e w' => ∃ m, IsMaj f n other m ∧ e = .returned (.int .i64 m) ∧ Below w.heap.size w w'
def DeOK (fn : Nat) : Prop := ∀ (a b c : Int) (w : World), R64 a → R64 b → R64 c →
  Calls Try.prog fn #[.int .i64 a, .int .i64 b, .int .i64 c] w fun e w' => e = .returned (.int .i64 (dc3 a b c)) ∧ Below w.heap.size w w'
/-- The i-th lie. -/
def liF (g : Nat → Int) (n i : Nat) : Int := if i < n then g i else 0
/-- Four times four numbers as one value. -/
def gridV (x : Nat → Nat → Int) : Value := .agg #[.int .i64 (x 0 0), .int .i64 (x 0 1), .int .i64 (x 0 2), .int .i64 (x 0 3), .int .i64 (x 1 0), .int .i64 (x 1 1), .int .i64 (x 1 2), .int .i64 (x 1 3), .int .i64 (x 2 0), .int .i64 (x 2 1), .int .i64 (x 2 2), .int .i64 (x 2 3), .int .i64 (x 3 0), .int .i64 (x 3 1), .int .i64 (x 3 2), .int .i64 (x 3 3)]
def VcOK (fn : Nat) : Prop := ∀ (v : Nat → Int) (bad : Int) (lo : Option Addr) (ln lc : Nat) (g : Nat → Int) (w : World), (∀ i, R64 (v i)) → R64 bad → (∀ i, R64 (g i)) → ln * 8 ≤ 140737488351232 → ln ≤ lc → Sr w lo ln lc (iF g) →
  Calls Try.prog fn #[fourV v, .int .i64 bad, .slice lo ln lc] w fun e w' => e = .returned (gridV (vcF v bad (liF g ln))) ∧ Below w.heap.size w w'

end Go.Proofs.Ytngmeaaglogieaa

namespace Go.Proofs.Ytngmeaaglogieaa
open Go.RowKit

theorem ce_next (f : Nat → Int) (n : Nat) (v : Int) : ce f (n + 1) v = ce f n v + if f n = v then 1 else 0 := by
  show cn _ n + (if decide (f n = v) = true then 1 else 0) = _
  by_cases h : f n = v
  · rw [if_pos (decide_eq_true h), if_pos h]; rfl
  · rw [if_neg (by rw [decide_eq_false h]; decide), if_neg h]; rfl
theorem maj_none {f : Nat → Int} {n : Nat} (h : ∀ j, j < n → ¬ n < 2 * ce f n (f j)) (other : Int) : IsMaj f n other other := by
  refine Or.inr ⟨fun v hv => ?_, rfl⟩
  obtain ⟨i, hi, hp⟩ := cn_pos (p := fun i => decide (f i = v)) (n := n) (by show 0 < ce f n v; omega)
  have e := of_decide_eq_true hp
  have := h i hi
  rw [e] at this
  exact this hv

set_option maxHeartbeats 2000000 in
theorem refMajority_rd (ao : Option Addr) (n cap : Nat) (f : Nat → Int) (other : Int) (w : World) (hl : n ≤ 17592186043904) (hr : Rd w ao n (iF f)) :
    Calls Try.prog 53 #[.slice ao n cap, .int .i64 other] w fun e w' => ∃ m, IsMaj f n other m ∧ e = .returned (.int .i64 m) ∧ w' = w := by
  have HR := hide hr
  clear hr
  go_enter Try.func53, Try.ntmps53
  go_wp2_with fail
  go_loopw [6, 7, 9, 12] (fun _ _ _ is wr => w = wr ∧ ∃ i : Nat, is = .int .i64 i ∧ i ≤ n ∧ ∀ j, j < i → ¬ n < 2 * ce f n (f j)) (fun _ _ _ is _ => n - (intOf is).toNat)
  case atStart => exact ⟨rfl, 0, rfl, Nat.zero_le _, fun j hj => absurd hj (by omega)⟩
  case round =>
    obtain ⟨rfl, i, rfl, hi, hno⟩ := hrel
    have NO := hide hno
    clear hno
    by_cases hin : i < n
    · obtain ⟨b, o, rfl, hc⟩ := unhide HR (by omega)
      have HC := hide hc
      have ci : w.cell? ⟨b, o + i, none⟩ = some (.int .i64 (f i)) := hc i hin
      obtain ⟨v, ev⟩ : ∃ v, f i = v := ⟨_, rfl⟩
      rw [ev] at ci
      have EV := hide ev
      clear ev hc
      go_wp2_with fail
      clear ci
      go_loopw [7, 9, 18] (fun ns _ js wr => w = wr ∧ ∃ j : Nat, js = .int .i64 j ∧ j ≤ n ∧ ns = .int .i64 (ce f j v : Nat)) (fun _ _ js _ => n - (intOf js).toNat)
      case atStart => exact ⟨rfl, 0, rfl, Nat.zero_le _, rfl⟩
      case round =>
        obtain ⟨rfl, j, rfl, hj, rfl⟩ := hrel
        have b2 : ce f j v ≤ j := cn_le _ _
        by_cases hjn : j < n
        · have cj : w.cell? ⟨b, o + j, none⟩ = some (.int .i64 (f j)) := unhide HC j hjn
          have S2 := hide (ce_next f j v)
          obtain ⟨q, eq⟩ : ∃ q, ce f j v = q := ⟨_, rfl⟩
          obtain ⟨u, eu⟩ : ∃ u, f j = u := ⟨_, rfl⟩
          rw [eq] at b2 S2 ⊢
          rw [eu] at cj S2
          clear eq eu
          by_cases he : u = v
          · subst he
            have t1 : (u == u) = true := by simp
            have T2 := hide (show ce f (j + 1) u = q + 1 by rw [unhide S2, if_pos rfl])
            go_wp2_with fail
            go_roundw
            case rel => exact ⟨trivial, j + 1, by go_num, by omega, by rw [unhide T2]; go_num⟩
            case measure => simp [intOf] <;> omega
          · have t1 : (v == u) = false := by simp; omega
            have T2 := hide (show ce f (j + 1) v = q by rw [unhide S2, if_neg he]; rfl)
            go_wp2_with fail
            go_roundw
            case rel => exact ⟨trivial, j + 1, by go_num, by omega, by rw [unhide T2]⟩
            case measure => simp [intOf] <;> omega
        · have e9 : j = n := by omega
          subst e9
          have C := hide (show ce f j v = ce f j (f i) by rw [unhide EV])
          obtain ⟨q, eq⟩ : ∃ q, ce f j v = q := ⟨_, rfl⟩
          have EQ := hide eq
          rw [eq] at b2 ⊢
          clear eq
          by_cases h2 : j < 2 * q
          · have h2' : (j : Int) < 2 * (q : Int) := by omega
            go_wp2_with fail
            go_ret
            exact ⟨v, Or.inl (by rw [unhide EQ]; exact h2), rfl, rfl⟩
          · have h2' : ¬ (j : Int) < 2 * (q : Int) := by omega
            go_wp2_with fail
            go_roundw
            case rel => exact ⟨trivial, i + 1, by go_num, by omega, fun t ht => by
              by_cases e : t = i
              · subst e; rw [unhide EV, unhide EQ]; exact h2
              · exact unhide NO t (by omega)⟩
            case measure => simp [intOf] <;> omega
    · have e9 : i = n := by omega
      subst e9
      go_wp2_with fail
      go_ret
      exact ⟨other, maj_none (unhide NO) other, rfl, rfl⟩

theorem refMajority_ok : MjOK 53 := by
  intro ao n cap f other w _ _ hl _ hs
  refine (refMajority_rd ao n cap f other w (by omega) hs.rd).mono ?_
  rintro e w' ⟨m, hm, rfl, rfl⟩
  exact ⟨m, hm, rfl, Below.refl _ _⟩

end Go.Proofs.Ytngmeaaglogieaa
