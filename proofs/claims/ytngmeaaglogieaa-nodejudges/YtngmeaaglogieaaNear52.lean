/- Joined: LawNod3, Call6, NodTkn, AgrOK, RefAgr1, RefNod5. -/
import Derived.Test.YtngmeaaglogieaaNear37
import Derived.Test.YtngmeaaglogieaaNear46
import Derived.Test.YtngmeaaglogieaaNear14
import Derived.Test.YtngmeaaglogieaaNear47
import Derived.Test.YtngmeaaglogieaaNear11
import Derived.Test.YtngmeaaglogieaaNear42
import Derived.Test.YtngmeaaglogieaaNear34
import Derived.Test.YtngmeaaglogieaaNear50
namespace Go.Proofs.Ytngmeaaglogieaa
open Go.RowKit

theorem enter_msgs (x : Value) (w : World) : (callFunc 17 #[x]).run Try.prog w = .ok (.enter 17 #[x]) w := by go_simp
theorem enter_begun (w : World) : (callFunc 14 #[]).run Try.prog w = .ok (.enter 14 #[]) w := by go_simp
theorem enter_samen (x y : Value) (w : World) : (callFunc 10 #[x, y]).run Try.prog w = .ok (.enter 10 #[x, y]) w := by go_simp
theorem enter_samem (x y : Value) (w : World) : (callFunc 15 #[x, y]).run Try.prog w = .ok (.enter 15 #[x, y]) w := by go_simp
theorem sr_own {t : TypeId} {w : World} {B n c : Nat} {ao : Option Addr} {g : Nat → Value} (h : w.ownsRow B t 1 (.slice ao n c) n (rowV g n)) : Sr w ao n c g := by
  obtain ⟨ao2, cap, e, hs, _⟩ := owns_sr h
  cases e
  exact hs
theorem ms_rd {w w' : World} {B : Nat} {mo mo' : Option Addr} {k mc' : Nat} {L M : List Lm} (hM : M.map Lm.m = L.map Lm.m) (h : MRd w mo L) (o : OwnM w' B (.slice mo' k mc') M) : MRd w' mo' M := by
  refine o.rd (fun c hc => ?_)
  have : c.m ∈ L.map Lm.m := by rw [← hM]; exact List.mem_map_of_mem hc
  obtain ⟨d, hd, e⟩ := List.mem_map.1 this
  rw [← e]
  exact (h.2 d hd).2.2
theorem ms_R {L M : List Lm} (hM : M.map Lm.m = L.map Lm.m) (hRL : ∀ m, m ∈ L → ∀ i, R64 (gL m.m.L i)) : ∀ m, m ∈ M → ∀ i, R64 (gL m.m.L i) := by
  intro c hc
  have : c.m ∈ L.map Lm.m := by rw [← hM]; exact List.mem_map_of_mem hc
  obtain ⟨d, hd, e⟩ := List.mem_map.1 this
  rw [← e]
  exact hRL d hd
theorem ms_nil {w : World} : MRd w none [] := ⟨fun h => absurd h (by decide), fun c h => absurd h (List.not_mem_nil)⟩
theorem begN_ok : NdOK (begN 2 ⟨1, 0, 0, 0⟩) := by
  have z : R64 0 := ⟨by decide, by decide⟩
  have u : R64 4294967296 := ⟨by decide, by decide⟩
  exact ⟨⟨by decide, by decide⟩, z, tn1_ok, fun a => ⟨z, z, u, z, u, z⟩, fun i => z, fun i => z, fun s a => z, fun s => z, fun s a => z, fun a => z, z, z, by decide⟩

end Go.Proofs.Ytngmeaaglogieaa

namespace Go.Proofs.Ytngmeaaglogieaa
open Go

theorem wp_call6 (w : World) {P : Program} {Q : Exit → Act → World → Prop} {o : Oper} {a : Act} {K : Act → World → Prop} (n : Nat) (x y z u v x6 : Operand) (T : Array TypeId) (ho : o.op = .call { callee := .value (.func n), args := #[x, y, z, u, v, x6], argTypes := T }) {p q r s t p6 : Value} (hx : a.eval x = p) (hy : a.eval y = q) (hz : a.eval z = r) (hu : a.eval u = s) (hv : a.eval v = t) (h6 : a.eval x6 = p6) (hf : (callFunc n #[p, q, r, s, t, p6]).run P w = .ok (.enter n #[p, q, r, s, t, p6]) w) {R : Ending → World → Prop} (hc : Calls P n #[p, q, r, s, t, p6] w R)
    (h : ∀ e w', R e w' → ∃ r, e = .returned r ∧ K (a.put o.dst r) w') : WpI P o a w K Q := by
  refine ⟨?_⟩
  have e : (execOp a.eval o).run P w = .ok (.enter n #[p, q, r, s, t, p6]) w := by
    unfold execOp
    rw [ho]
    have hv2 : a.eval (Operand.func n) = .func (.func n) #[] #[] := rfl
    simp only [resolve, invoke, Sem.run_bind, List.map_toArray, List.map_cons, List.map_nil, hx, hy, hz, hu, hv, h6, hv2]
    go_simp
  unfold Oper.wp
  rw [e, Oper.upon_enter]
  refine hc.mono ?_
  intro e w' hr
  obtain ⟨r, rfl, hk⟩ := h e w' hr
  exact hk

theorem wp_call3n (w : World) {P : Program} {Q : Exit → Act → World → Prop} {o : Oper} {a : Act} {K : Act → World → Prop} (n : Nat) (x y z : Operand) (T : Array TypeId) (ho : o.op = .call { callee := .value (.func n), args := #[x, y, z], argTypes := T }) {p q r : Value} (hx : a.eval x = p) (hy : a.eval y = q) (hz : a.eval z = r) (hf : (callFunc n #[p, q, r]).run P w = .ok (.enter n #[p, q, r]) w) {R : Ending → World → Prop} (hc : Calls P n #[p, q, r] w R)
    (h : ∀ e w', R e w' → ∃ r, e = .returned r ∧ K (a.put o.dst r) w') : WpI P o a w K Q := by
  refine ⟨?_⟩
  have e : (execOp a.eval o).run P w = .ok (.enter n #[p, q, r]) w := by
    unfold execOp
    rw [ho]
    have hv2 : a.eval (Operand.func n) = .func (.func n) #[] #[] := rfl
    simp only [resolve, invoke, Sem.run_bind, List.map_toArray, List.map_cons, List.map_nil, hx, hy, hz, hv2]
    go_simp
  unfold Oper.wp
  rw [e, Oper.upon_enter]
  refine hc.mono ?_
  intro e w' hr
  obtain ⟨r, rfl, hk⟩ := h e w' hr
  exact hk


end Go.Proofs.Ytngmeaaglogieaa

namespace Go.Proofs.Ytngmeaaglogieaa
open Go.RowKit

theorem R64_zero : R64 0 := ⟨by decide, by decide⟩
theorem gL_R {l : List Int} (h : ∀ x, x ∈ l → R64 x) (i : Nat) : R64 (gL l i) := by
  unfold gL
  rw [List.getD_eq_getElem?_getD]
  rcases Nat.lt_or_ge i l.length with c | c
  · rw [List.getElem?_eq_getElem c]
    exact h _ (List.getElem_mem c)
  · rw [List.getElem?_eq_none c]
    exact R64_zero
theorem dc3_R {a b c : Int} (ha : R64 a) (hb : R64 b) : R64 (dc3 a b c) := by
  unfold dc3
  split
  · exact ha
  · split
    · exact ha
    · split
      · exact hb
      · exact R64_zero
theorem frst_mem {n : Nd} {L : List Lm} {s : Nat} {kind : Int} {many : Nat} {v : List Int} (h : frst n (L.map Lm.m) s kind many = some v) : ∃ c, c ∈ L ∧ c.m.L = v := by
  rw [← fL_frst] at h
  obtain ⟨c, h1, h2⟩ := Option.map_eq_some_iff.1 h
  exact ⟨c, List.mem_of_find?_eq_some h1, h2⟩
theorem tld_R {n : Nd} {L : List Lm} (hRL : ∀ m, m ∈ L → ∀ i, R64 (gL m.m.L i)) (i k many : Nat) : R64 (tldN n (L.map Lm.m) i k many) := by
  unfold tldN
  cases e : frst n (L.map Lm.m) i 2 many with
  | none => exact R64_zero
  | some v =>
    obtain ⟨c, h1, rfl⟩ := frst_mem e
    exact hRL c h1 k
theorem tkn_R {n : Nd} {L : List Lm} (hRL : ∀ m, m ∈ L → ∀ i, R64 (gL m.m.L i)) {s : Nat} {h : Int} {k many : Nat} (hh : R64 h) : R64 (tkn n (L.map Lm.m) s h k many) := by
  unfold tkn
  split
  · exact hh
  · exact dc3_R hh (tld_R hRL _ _ _)
theorem enter_taken (x y z u v s : Value) (w : World) : (callFunc 41 #[x, y, z, u, v, s]).run Try.prog w = .ok (.enter 41 #[x, y, z, u, v, s]) w := by go_simp

end Go.Proofs.Ytngmeaaglogieaa

namespace Go.Proofs.Ytngmeaaglogieaa
open Go.RowKit

def MjOK (fn : Nat) : Prop := ∀ (ao : Option Addr) (n cap : Nat) (f : Nat → Int) (other : Int) (w : World), (∀ i, R64 (f i)) → R64 other → n * 8 ≤ 140737488351232 → n ≤ cap → Sr w ao n cap (iF f) →
  Calls Try.prog fn #[.slice ao n cap, .int .i64 other] w fun e w' => ∃ m, IsMaj f n other m ∧ e = .returned (.int .i64 m) ∧ Below w.heap.size w w'
def DeOK (fn : Nat) : Prop := ∀ (a b c : Int) (w : World), R64 a → R64 b → R64 c →
  Calls Try.prog fn #[.int .i64 a, .int .i64 b, .int .i64 c] w fun e w' => e = .returned (.int .i64 (dc3 a b c)) ∧ Below w.heap.size w w'
/-- The i-th lie. -/
def liF (g : Nat → Int) (n i : Nat) : Int := if i < n then g i else 0
/-- Four times four numbers as one value. -/
def gridV (x : Nat → Nat → Int) : Value := .agg #[.int .i64 (x 0 0), .int .i64 (x 0 1), .int .i64 (x 0 2), .int .i64 (x 0 3), .int .i64 (x 1 0), .int .i64 (x 1 1), .int .i64 (x 1 2), .int .i64 (x 1 3), .int .i64 (x 2 0), .int .i64 (x 2 1), .int .i64 (x 2 2), .int .i64 (x 2 3), .int .i64 (x 3 0), .int .i64 (x 3 1), .int .i64 (x 3 2), .int .i64 (x 3 3)]
def VcOK (fn : Nat) : Prop := ∀ (v : Nat → Int) (bad : Int) (lo : Option Addr) (ln lc : Nat) (g : Nat → Int) (w : World), (∀ i, R64 (v i)) → R64 bad → (∀ i, R64 (g i)) → ln * 8 ≤ 140737488351232 → ln ≤ lc → Sr w lo ln lc (iF g) →
  Calls Try.prog fn #[fourV v, .int .i64 bad, .slice lo ln lc] w fun e w' => e = .returned (gridV (vcF v bad (liF g ln))) ∧ Below w.heap.size w w'

end Go.Proofs.Ytngmeaaglogieaa

namespace Go.Proofs.Ytngmeaaglogieaa
open Go.RowKit

theorem ce_next (f : Nat → Int) (n : Nat) (v : Int) : ce f (n + 1) v = ce f n v + if f n = v then 1 else 0 := by
  show cn _ n + (if decide (f n = v) = true then 1 else 0) = _
  by_cases h : f n = v
  · rw [if_pos (decide_eq_true h), if_pos h]; rfl
  · rw [if_neg (by rw [decide_eq_false h]; decide), if_neg h]; rfl
theorem maj_none {f : Nat → Int} {n : Nat} (h : ∀ j, j < n → ¬ n < 2 * ce f n (f j)) (other : Int) : IsMaj f n other other := by
  refine Or.inr ⟨fun v hv => ?_, rfl⟩
  obtain ⟨i, hi, hp⟩ := cn_pos (p := fun i => decide (f i = v)) (n := n) (by show 0 < ce f n v; omega)
  have e := of_decide_eq_true hp
  have := h i hi
  rw [e] at this
  exact this hv

set_option maxHeartbeats 2000000 in
theorem refMajority_rd (ao : Option Addr) (n cap : Nat) (f : Nat → Int) (other : Int) (w : World) (hl : n ≤ 17592186043904) (hr : Rd w ao n (iF f)) :
    Calls Try.prog 53 #[.slice ao n cap, .int .i64 other] w fun e w' => ∃ m, IsMaj f n other m ∧ e = .returned (.int .i64 m) ∧ w' = w := by
  have HR := hide hr
  clear hr
  go_enter Try.func53, Try.ntmps53
  go_wp2_with fail
  go_loopw [6, 7, 9, 12] (fun _ _ _ is wr => w = wr ∧ ∃ i : Nat, is = .int .i64 i ∧ i ≤ n ∧ ∀ j, j < i → ¬ n < 2 * ce f n (f j)) (fun _ _ _ is _ => n - (intOf is).toNat)
  case atStart => exact ⟨rfl, 0, rfl, Nat.zero_le _, fun j hj => absurd hj (by omega)⟩
  case round =>
    obtain ⟨rfl, i, rfl, hi, hno⟩ := hrel
    have NO := hide hno
    clear hno
    by_cases hin : i < n
    · obtain ⟨b, o, rfl, hc⟩ := unhide HR (by omega)
      have HC := hide hc
      have ci : w.cell? ⟨b, o + i, none⟩ = some (.int .i64 (f i)) := hc i hin
      obtain ⟨v, ev⟩ : ∃ v, f i = v := ⟨_, rfl⟩
      rw [ev] at ci
      have EV := hide ev
      clear ev hc
      go_wp2_with fail
      clear ci
      go_loopw [7, 9, 18] (fun ns _ js wr => w = wr ∧ ∃ j : Nat, js = .int .i64 j ∧ j ≤ n ∧ ns = .int .i64 (ce f j v : Nat)) (fun _ _ js _ => n - (intOf js).toNat)
      case atStart => exact ⟨rfl, 0, rfl, Nat.zero_le _, rfl⟩
      case round =>
        obtain ⟨rfl, j, rfl, hj, rfl⟩ := hrel
        have b2 : ce f j v ≤ j := cn_le _ _
        by_cases hjn : j < n
        · have cj : w.cell? ⟨b, o + j, none⟩ = some (.int .i64 (f j)) := unhide HC j hjn
          have S2 := hide (ce_next f j v)
          obtain ⟨q, eq⟩ : ∃ q, ce f j v = q := ⟨_, rfl⟩
          obtain ⟨u, eu⟩ : ∃ u, f j = u := ⟨_, rfl⟩
          rw [eq] at b2 S2 ⊢
          rw [eu] at cj S2
          clear eq eu
          by_cases he : u = v
          · subst he
            have t1 : (u == u) = true := by simp
            have T2 := hide (show ce f (j + 1) u = q + 1 by rw [unhide S2, if_pos rfl])
            go_wp2_with fail
            go_roundw
            case rel => exact ⟨trivial, j + 1, by go_num, by omega, by rw [unhide T2]; go_num⟩
            case measure => simp [intOf] <;> omega
          · have t1 : (v == u) = false := by simp; omega
            have T2 := hide (show ce f (j + 1) v = q by rw [unhide S2, if_neg he]; rfl)
            go_wp2_with fail
            go_roundw
            case rel => exact ⟨trivial, j + 1, by go_num, by omega, by rw [unhide T2]⟩
            case measure => simp [intOf] <;> omega
        · have e9 : j = n := by omega
          subst e9
          have C := hide (show ce f j v = ce f j (f i) by rw [unhide EV])
          obtain ⟨q, eq⟩ : ∃ q, ce f j v = q := ⟨_, rfl⟩
          have EQ := hide eq
          rw [eq] at b2 ⊢
          clear eq
          by_cases h2 : j < 2 * q
          · have h2' : (j : Int) < 2 * (q : Int) := by omega
            go_wp2_with fail
            go_ret
            exact ⟨v, Or.inl (by rw [unhide EQ]; exact h2), rfl, rfl⟩
          · have h2' : ¬ (j : Int) < 2 * (q : Int) := by omega
            go_wp2_with fail
            go_roundw
            case rel => exact ⟨trivial, i + 1, by go_num, by omega, fun t ht => by
              by_cases e : t = i
              · subst e; rw [unhide EV, unhide EQ]; exact h2
              · exact unhide NO t (by omega)⟩
            case measure => simp [intOf] <;> omega
    · have e9 : i = n := by omega
      subst e9
      go_wp2_with fail
      go_ret
      exact ⟨other, maj_none (unhide NO) other, rfl, rfl⟩

theorem refMajority_ok : MjOK 53 := by
  intro ao n cap f other w _ _ hl _ hs
  refine (refMajority_rd ao n cap f other w (by omega) hs.rd).mono ?_
  rintro e w' ⟨m, hm, rfl, rfl⟩
  exact ⟨m, hm, rfl, Below.refl _ _⟩

end Go.Proofs.Ytngmeaaglogieaa

namespace Go.Proofs.Ytngmeaaglogieaa
open Go.RowKit

/-- The list that is voted on. -/
def tkL (I s : Nat) (T : Nat → Int) (h : Int) : Nat → List Int
  | 0 => [h]
  | i + 1 => tkL I s T h i ++ if i = I ∨ i = s then [] else [T i]
theorem tkL_len (I s : Nat) (T : Nat → Int) (h : Int) (i : Nat) : (tkL I s T h i).length ≤ i + 1 := by
  induction i with
  | zero => exact Nat.le_refl 1
  | succ i ih =>
    show (tkL I s T h i ++ _).length ≤ _
    rw [List.length_append]
    split
    · show _ + 0 ≤ _; omega
    · show _ + 1 ≤ _; omega
theorem tk_skip {I s i : Nat} {T : Nat → Int} {h : Int} (e : i = I ∨ i = s) : tkL I s T h (i + 1) = tkL I s T h i := by
  show tkL I s T h i ++ _ = _
  rw [if_pos e, List.append_nil]
theorem tk_take {I s i : Nat} {T : Nat → Int} {h x : Int} (e1 : i ≠ I) (e2 : i ≠ s) (ex : T i = x) : tkL I s T h (i + 1) = tkL I s T h i ++ [x] := by
  show tkL I s T h i ++ _ = _
  rw [if_neg (fun c => c.elim e1 e2), ex]
theorem tk_four {I s : Nat} {T : Nat → Int} {h : Int} (hI : I < 4) (hs : s < 4) (e : I ≠ s) : tkL I s T h 4 = [h, T (o1 I s), T (o2 I s)] := by
  have : I = 0 ∨ I = 1 ∨ I = 2 ∨ I = 3 := by omega
  have : s = 0 ∨ s = 1 ∨ s = 2 ∨ s = 3 := by omega
  rcases ‹I = 0 ∨ _› with rfl | rfl | rfl | rfl <;> rcases ‹s = 0 ∨ _› with rfl | rfl | rfl | rfl <;> first | (exact absurd rfl e) | rfl
theorem tld_some {n : Nd} {L : List Lm} {i k many : Nat} {c : Lm} (h : fL n.id n.fr L (i : Int) 2 (many : Int) = some c) : tldN n (L.map Lm.m) i k many = gL c.m.L k := by
  have := fL_frst n L i 2 many
  rw [h] at this
  unfold tldN
  rw [← this]
  rfl
theorem tld_none {n : Nd} {L : List Lm} {i k many : Nat} (h : fL n.id n.fr L (i : Int) 2 (many : Int) = none) : tldN n (L.map Lm.m) i k many = 0 := by
  have := fL_frst n L i 2 many
  rw [h] at this
  unfold tldN
  rw [← this]
  rfl
set_option maxHeartbeats 2000000 in
theorem refTaken_any (n : Nd) (nv : Value) (mo : Option Addr) (mc : Nat) (L : List Lm) (I s : Nat) (h : Int) (k many : Nat) (w : World) (hI : n.id = (I : Int)) (hI4 : I < 4) (hs4 : s < 4) (hk : k < many) (hmr : MRd w mo L) (hN : L.length ≤ 140737488351232) :
    Calls Try.prog 41 #[ndV n nv, .slice mo L.length mc, .int .i64 (s : Int), .int .i64 h, .int .i64 (k : Int), .int .i64 (many : Int)] w fun e w' => e = .returned (.int .i64 (tkn n (L.map Lm.m) s h k many)) ∧ Below w.heap.size w w' := by
  refine enterF Try.func41 rfl 58 rfl (of_decide_eq_true rfl) (fun A hs hd hb => ?_)
  have b0 : A.eval (.tmp 0) = ndV n nv := hb 0 _ rfl
  have b1 : A.eval (.tmp 1) = .slice mo L.length mc := hb 1 _ rfl
  have b2 : A.eval (.tmp 2) = .int .i64 (s : Int) := hb 2 _ rfl
  have b3 : A.eval (.tmp 3) = .int .i64 h := hb 3 _ rfl
  have b4 : A.eval (.tmp 4) = .int .i64 (k : Int) := hb 4 _ rfl
  have b5 : A.eval (.tmp 5) = .int .i64 (many : Int) := hb 5 _ rfl
  clear hb
  refine c_rs (m_start ?_)
  refine m_do rfl (wanted_rd rfl) (fun K hK => ?_)
  refine wp_boxG _ _ _ rfl (ev_out rfl b0) (of_decide_eq_true rfl) ?_
  intro w1 m1 k1 z1
  refine hK _ _ ?_
  clear hK K
  refine m_mv rfl (wanted_rd rfl) (run_assign _ rfl (ev_const _ _) _) ?_
  refine l_nx ?_
  refine c_nx ?_
  refine c_rs ?_
  by_cases hsi : (s : Int) = n.id
  · refine m_mv rfl (wanted_rd rfl) (run_move _ rfl (ev_out rfl b2) _) ?_
    refine m_mv rfl (wanted_rd rfl) (fldNd0 rfl (ev_in rfl (by omega)) _) ?_
    refine m_mv rfl (wanted_rd rfl) (run_lod1 _ _ rfl oneI (ev_in rfl (by omega)) m1 (by decide) rfl) ?_
    refine m_mv rfl (wanted_rd rfl) (run_eqlI (b := true) _ _ rfl (ev_in rfl (by omega)) (ev_in rfl (by omega)) (decide_eq_true hsi) _) ?_
    refine l_nx ?_
    refine c_true (ev_in rfl (by omega)) ?_
    refine c_rs ?_
    refine m_mv rfl (wanted_rd rfl) (run_move _ rfl (ev_out rfl b3) _) ?_
    refine m_mv rfl (wanted_rd rfl) (run_assign _ rfl (ev_in rfl (by omega)) _) ?_
    refine l_nx ?_
    refine c_ret ?_
    simp only [Nx, Exit.then]
    refine ret_of ((defL _ _).trans hd) (res_t rfl (ev_in rfl (by omega))) ⟨by unfold tkn; rw [if_pos hsi], k1⟩
  · refine m_mv rfl (wanted_rd rfl) (run_move _ rfl (ev_out rfl b2) _) ?_
    refine m_mv rfl (wanted_rd rfl) (fldNd0 rfl (ev_in rfl (by omega)) _) ?_
    refine m_mv rfl (wanted_rd rfl) (run_lod1 _ _ rfl oneI (ev_in rfl (by omega)) m1 (by decide) rfl) ?_
    refine m_mv rfl (wanted_rd rfl) (run_eqlI (b := false) _ _ rfl (ev_in rfl (by omega)) (ev_in rfl (by omega)) (decide_eq_false hsi) _) ?_
    refine l_nx ?_
    refine c_false (ev_in rfl (by omega)) (c_fin ?_)
    refine c_rs ?_
    refine m_mv rfl (wanted_rd rfl) (run_move _ rfl (ev_out rfl b3) _) ?_
    refine m_do rfl (wanted_rd rfl) (fun K hK => ?_)
    refine wp_row1 _ _ rfl (ev_in rfl (by omega)) ?_
    intro w2 m2 k2 z2
    have mn2 := m1.below k2
    refine hK _ _ ?_
    clear hK K
    refine m_mv rfl (wanted_rd rfl) (run_assign _ rfl (ev_in rfl (by omega)) _) ?_
    refine l_nx ?_
    refine c_nx ?_
    refine c_rs ?_
    refine m_mv rfl (wanted_rd rfl) (run_assign _ rfl (ev_const _ _) _) ?_
    refine l_nx ?_
    refine c_block ?_
    refine c_loop (fun r a W => ∃ (i : Nat) (v : Value), i ≤ 4 ∧ 4 - i ≤ r ∧ a.tmps.size = 58 ∧ a.defers = [] ∧ a.eval (.tmp 1) = .slice mo L.length mc ∧ a.eval (.tmp 2) = .int .i64 (s : Int) ∧ a.eval (.tmp 4) = .int .i64 (k : Int) ∧ a.eval (.tmp 5) = .int .i64 (many : Int) ∧ a.eval (.tmp 6) = .pointer (some ⟨w.heap.size, 0, none⟩) ∧ a.eval (.tmp 13) = v ∧ a.eval (.tmp 14) = .int .i64 (i : Int) ∧ Vh 37 W w.heap.size 74 74 (ndF n nv) ∧ W.ownsRow w1.heap.size 3 1 v (tkL I s (fun j => tldN n (L.map Lm.m) j k many) h i).length ((tkL I s (fun j => tldN n (L.map Lm.m) j k many) h i).map iV) ∧ Below w.heap.size w W ∧ w1.heap.size ≤ W.heap.size) 4 ⟨0, _, by omega, by omega, (szL _ _).trans hs, (defL _ _).trans hd, (ev_out rfl b1), (ev_out rfl b2), (ev_out rfl b4), (ev_out rfl b5), (ev_in rfl (by omega)), (ev_in rfl (by omega)), (ev_in rfl (by omega)), mn2, Vh.owns m2 (Nat.le_refl _), k1.trans (k2.mono (by omega)), by omega⟩ (fun r B W hI => ?_)
    clear b0 b1 b2 b3 b4 b5 hs hd
    obtain ⟨i, v, hi, hr2, hs, hd, b1, b2, b4, b5, b6, b13, b14, mn, ow, kB, hW⟩ := hI
    by_cases hin : i < 4
    · have hll := tkL_len I s (fun j => tldN n (L.map Lm.m) j k many) h i
      by_cases hci : (i : Int) = n.id
      · have hcs : True := trivial
        refine c_nx ?_
        refine c_rs (m_start ?_)
        refine m_mv rfl (wanted_rd rfl) (run_move _ rfl (ev_out rfl b14) _) ?_
        refine m_mv rfl (wanted_rd rfl) (run_lssI (b := true) _ _ rfl (ev_in rfl (by omega)) (ev_const _ _) (decide_eq_true (by omega)) _) ?_
        refine l_nx ?_
        refine c_true (ev_in rfl (by omega)) (c_fin ?_)
        refine c_nx (c_block ?_)
        refine c_nx ?_
        refine c_rs ?_
        refine m_mv rfl (wanted_rd rfl) (run_move _ rfl (ev_out rfl b14) _) ?_
        refine m_mv rfl (wanted_rd rfl) (fldNd0 rfl (ev_out rfl b6) _) ?_
        refine m_mv rfl (wanted_rd rfl) (run_lod1 _ _ rfl oneI (ev_in rfl (by omega)) mn (by decide) rfl) ?_
        refine m_mv rfl (wanted_rd rfl) (run_eqlI (b := true) _ _ rfl (ev_in rfl (by omega)) (ev_in rfl (by omega)) (decide_eq_true hci) _) ?_
        refine m_mv rfl (wanted_rd rfl) (run_move _ rfl (ev_in rfl (by omega)) _) ?_
        refine m_skip rfl (wanted_n (j := 4) rfl rfl rfl (ev_in rfl (by omega)) (by decide)) ?_
        refine m_skip rfl (wanted_n (j := 4) rfl rfl rfl (ev_in rfl (by omega)) (by decide)) ?_
        refine m_skip rfl (wanted_n (j := 4) rfl rfl rfl (ev_in rfl (by omega)) (by decide)) ?_
        refine m_mv rfl (wanted_rd rfl) (run_pickT' _ _ _ rfl (ev_in rfl (by omega)) (ev_const _ _) _) ?_
        refine l_nx ?_
        refine c_true (ev_in rfl (by omega)) (c_exit (x_in ?_))
        refine c_region ?_
        refine m_mv rfl (wanted_rd rfl) (run_move _ rfl (ev_out rfl b14) _) ?_
        refine m_mv rfl (wanted_rd rfl) (run_addI _ _ rfl (ev_in rfl (by omega)) (ev_const _ _) (by omega) (by omega) _) ?_
        refine m_mv rfl (wanted_rd rfl) (run_assign _ rfl (ev_in rfl (by omega)) _) ?_
        exact l_round ⟨4 - (i + 1), by omega, i + 1, _, by omega, by omega, (szL _ _).trans hs, (defL _ _).trans hd, (ev_out rfl b1), (ev_out rfl b2), (ev_out rfl b4), (ev_out rfl b5), (ev_out rfl b6), (ev_out rfl b13), (ev_in rfl (by omega)).trans (by rw [Int.natCast_add]; rfl), mn, by rw [(tk_skip (by omega))]; exact ow, kB, by omega⟩
      · by_cases hcs : (i : Int) = (s : Int)
        · refine c_nx ?_
          refine c_rs (m_start ?_)
          refine m_mv rfl (wanted_rd rfl) (run_move _ rfl (ev_out rfl b14) _) ?_
          refine m_mv rfl (wanted_rd rfl) (run_lssI (b := true) _ _ rfl (ev_in rfl (by omega)) (ev_const _ _) (decide_eq_true (by omega)) _) ?_
          refine l_nx ?_
          refine c_true (ev_in rfl (by omega)) (c_fin ?_)
          refine c_nx (c_block ?_)
          refine c_nx ?_
          refine c_rs ?_
          refine m_mv rfl (wanted_rd rfl) (run_move _ rfl (ev_out rfl b14) _) ?_
          refine m_mv rfl (wanted_rd rfl) (fldNd0 rfl (ev_out rfl b6) _) ?_
          refine m_mv rfl (wanted_rd rfl) (run_lod1 _ _ rfl oneI (ev_in rfl (by omega)) mn (by decide) rfl) ?_
          refine m_mv rfl (wanted_rd rfl) (run_eqlI (b := false) _ _ rfl (ev_in rfl (by omega)) (ev_in rfl (by omega)) (decide_eq_false hci) _) ?_
          refine m_mv rfl (wanted_rd rfl) (run_move _ rfl (ev_in rfl (by omega)) _) ?_
          refine m_mv rfl (wanted_g (j := 4) rfl rfl rfl (ev_in rfl (by omega))) (run_move _ rfl (ev_out rfl b14) _) ?_
          refine m_mv rfl (wanted_g (j := 4) rfl rfl rfl (ev_in rfl (by omega))) (run_move _ rfl (ev_out rfl b2) _) ?_
          refine m_mv rfl (wanted_g (j := 4) rfl rfl rfl (ev_in rfl (by omega))) (run_eqlI (b := true) _ _ rfl (ev_in rfl (by omega)) (ev_in rfl (by omega)) (decide_eq_true hcs) _) ?_
          refine m_mv rfl (wanted_rd rfl) (run_pickF _ _ _ rfl (ev_in rfl (by omega)) (ev_in rfl (by omega)) _) ?_
          refine l_nx ?_
          refine c_true (ev_in rfl (by omega)) (c_exit (x_in ?_))
          refine c_region ?_
          refine m_mv rfl (wanted_rd rfl) (run_move _ rfl (ev_out rfl b14) _) ?_
          refine m_mv rfl (wanted_rd rfl) (run_addI _ _ rfl (ev_in rfl (by omega)) (ev_const _ _) (by omega) (by omega) _) ?_
          refine m_mv rfl (wanted_rd rfl) (run_assign _ rfl (ev_in rfl (by omega)) _) ?_
          exact l_round ⟨4 - (i + 1), by omega, i + 1, _, by omega, by omega, (szL _ _).trans hs, (defL _ _).trans hd, (ev_out rfl b1), (ev_out rfl b2), (ev_out rfl b4), (ev_out rfl b5), (ev_out rfl b6), (ev_out rfl b13), (ev_in rfl (by omega)).trans (by rw [Int.natCast_add]; rfl), mn, by rw [(tk_skip (by omega))]; exact ow, kB, by omega⟩
        · rcases hfl : fL n.id n.fr L (i : Int) 2 (many : Int) with _ | cm
          · refine c_nx ?_
            refine c_rs (m_start ?_)
            refine m_mv rfl (wanted_rd rfl) (run_move _ rfl (ev_out rfl b14) _) ?_
            refine m_mv rfl (wanted_rd rfl) (run_lssI (b := true) _ _ rfl (ev_in rfl (by omega)) (ev_const _ _) (decide_eq_true (by omega)) _) ?_
            refine l_nx ?_
            refine c_true (ev_in rfl (by omega)) (c_fin ?_)
            refine c_nx (c_block ?_)
            refine c_nx ?_
            refine c_rs ?_
            refine m_mv rfl (wanted_rd rfl) (run_move _ rfl (ev_out rfl b14) _) ?_
            refine m_mv rfl (wanted_rd rfl) (fldNd0 rfl (ev_out rfl b6) _) ?_
            refine m_mv rfl (wanted_rd rfl) (run_lod1 _ _ rfl oneI (ev_in rfl (by omega)) mn (by decide) rfl) ?_
            refine m_mv rfl (wanted_rd rfl) (run_eqlI (b := false) _ _ rfl (ev_in rfl (by omega)) (ev_in rfl (by omega)) (decide_eq_false hci) _) ?_
            refine m_mv rfl (wanted_rd rfl) (run_move _ rfl (ev_in rfl (by omega)) _) ?_
            refine m_mv rfl (wanted_g (j := 4) rfl rfl rfl (ev_in rfl (by omega))) (run_move _ rfl (ev_out rfl b14) _) ?_
            refine m_mv rfl (wanted_g (j := 4) rfl rfl rfl (ev_in rfl (by omega))) (run_move _ rfl (ev_out rfl b2) _) ?_
            refine m_mv rfl (wanted_g (j := 4) rfl rfl rfl (ev_in rfl (by omega))) (run_eqlI (b := false) _ _ rfl (ev_in rfl (by omega)) (ev_in rfl (by omega)) (decide_eq_false hcs) _) ?_
            refine m_mv rfl (wanted_rd rfl) (run_pickF _ _ _ rfl (ev_in rfl (by omega)) (ev_in rfl (by omega)) _) ?_
            refine l_nx ?_
            refine c_false (ev_in rfl (by omega)) (c_fin ?_)
            refine c_rs ?_
            refine m_mv rfl (wanted_rd rfl) (run_loadP _ _ rfl manyNd (ev_out rfl b6) mn (by decide)) ?_
            refine m_mv rfl (wanted_rd rfl) (run_move _ rfl (ev_out rfl b1) _) ?_
            refine m_mv rfl (wanted_rd rfl) (run_move _ rfl (ev_out rfl b14) _) ?_
            refine m_mv rfl (wanted_rd rfl) (run_move _ rfl (ev_out rfl b5) _) ?_
            refine m_do rfl (wanted_rd rfl) (fun K hK => ?_)
            have C1 : Calls Try.prog 36 #[ndV n nv, .slice mo L.length mc, .int .i64 (i : Int), .int .i64 2, .int .i64 (many : Int)] W fun e w' => e = .returned (fstV (fL n.id n.fr L (i : Int) 2 (many : Int))) ∧ Below W.heap.size W w' := refFirst_any n _ mo mc L (i : Int) 2 (many : Int) _ (hmr.below kB) hN
            rw [hfl] at C1
            refine wp_call5 _ 36 _ _ _ _ _ _ rfl (ev_in rfl (by omega)) (ev_in rfl (by omega)) (ev_in rfl (by omega)) (ev_const _ _) (ev_in rfl (by omega)) (enter_first _ _ _ _ _ _) C1 ?_
            rintro e w7 ⟨rfl, k7⟩
            have n7 := k7.size
            have mn7 := mn.below k7
            have ow7 := rw_below ow k7
            refine ⟨_, rfl, ?_⟩
            refine hK _ _ ?_
            clear hK K
            refine m_mv rfl (wanted_rd rfl) (run_move _ rfl (ev_in rfl (by omega)) _) ?_
            refine m_mv rfl (wanted_rd rfl) (run_extA _ rfl (ev_in rfl (by omega)) _) ?_
            refine m_mv rfl (wanted_rd rfl) (run_extB _ rfl (ev_in rfl (by omega)) _) ?_
            refine m_mv rfl (wanted_rd rfl) (run_assign _ rfl (ev_in rfl (by omega)) _) ?_
            refine m_mv rfl (wanted_rd rfl) (run_assign _ rfl (ev_in rfl (by omega)) _) ?_
            refine l_nx ?_
            refine c_rs ?_
            refine m_mv rfl (wanted_rd rfl) (run_move _ rfl (ev_in rfl (by omega)) _) ?_
            refine l_nx ?_
            refine c_false (ev_in rfl (by omega)) ?_
            refine c_region ?_
            refine m_mv rfl (wanted_rd rfl) (run_move _ rfl (ev_out rfl b13) _) ?_
            refine m_do rfl (wanted_rd rfl) (fun K hK => ?_)
            refine wp_row1 _ _ rfl (ev_const _ _) ?_
            intro w8 m8 k8 z8
            have mn8 := mn7.below k8
            have ow8 := rw_below ow7 k8
            refine hK _ _ ?_
            clear hK K
            refine m_do rfl (wanted_rd rfl) (fun K hK => ?_)
            refine ⟨wp_joinI _ _ _ rfl w1.heap.size (by omega) v _ _ (ev_in rfl (by omega)) ow8 _ 1 1 _ (ev_in rfl (by omega)) (Or.inr ⟨_, rfl, fun i hi => by rw [add_at, Nat.zero_add]; exact m8.cell hi⟩) (fun i _ => rfl) (by omega) ?_⟩
            intro v9 w9 ov9 k9
            have n9 := k9.size
            have mn9 := mn8.same (k9.block _ (by omega))
            refine hK _ _ ?_
            clear hK K
            refine m_mv rfl (wanted_rd rfl) (run_assign _ rfl (ev_in rfl (by omega)) _) ?_
            refine l_finB ?_
            refine c_region ?_
            refine m_mv rfl (wanted_rd rfl) (run_move _ rfl (ev_out rfl b14) _) ?_
            refine m_mv rfl (wanted_rd rfl) (run_addI _ _ rfl (ev_in rfl (by omega)) (ev_const _ _) (by omega) (by omega) _) ?_
            refine m_mv rfl (wanted_rd rfl) (run_assign _ rfl (ev_in rfl (by omega)) _) ?_
            exact l_round ⟨4 - (i + 1), by omega, i + 1, _, by omega, by omega, (szL _ _).trans hs, (defL _ _).trans hd, (ev_out rfl b1), (ev_out rfl b2), (ev_out rfl b4), (ev_out rfl b5), (ev_out rfl b6), (ev_in rfl (by omega)), (ev_in rfl (by omega)).trans (by rw [Int.natCast_add]; rfl), mn9, by rw [(tk_take (T := fun j => tldN n (L.map Lm.m) j k many) (by omega) (by omega) (tld_none hfl)), List.length_append, List.map_append]; exact ov9, (((kB.trans (k7.mono (by omega))).trans (k8.mono (by omega))).trans (k9.mono (by omega))), by omega⟩
          · obtain ⟨cmem, cfit⟩ := fL_mem hfl
            have clen := fit_len cfit
            obtain ⟨ca, cmy, hy⟩ : ∃ y, cm.ao = some y ∧ ∀ W', Below w.heap.size w W' → ∀ i, i < cm.m.L.length → W'.cell? (y.add i) = some (.int .i64 (gL cm.m.L i)) := by
              obtain ⟨y, e, _⟩ := (hmr.2 cm cmem).at (by omega)
              refine ⟨y, e, fun W' k => ?_⟩
              obtain ⟨y', e', hy'⟩ := ((hmr.2 cm cmem).below k).at (by omega)
              rw [e] at e'; cases e'
              exact hy'
            obtain ⟨mm, mo2, mc2⟩ := cm
            dsimp only at cmy hy clen
            subst cmy
            have hl0 : k < mm.L.length := by omega
            refine c_nx ?_
            refine c_rs (m_start ?_)
            refine m_mv rfl (wanted_rd rfl) (run_move _ rfl (ev_out rfl b14) _) ?_
            refine m_mv rfl (wanted_rd rfl) (run_lssI (b := true) _ _ rfl (ev_in rfl (by omega)) (ev_const _ _) (decide_eq_true (by omega)) _) ?_
            refine l_nx ?_
            refine c_true (ev_in rfl (by omega)) (c_fin ?_)
            refine c_nx (c_block ?_)
            refine c_nx ?_
            refine c_rs ?_
            refine m_mv rfl (wanted_rd rfl) (run_move _ rfl (ev_out rfl b14) _) ?_
            refine m_mv rfl (wanted_rd rfl) (fldNd0 rfl (ev_out rfl b6) _) ?_
            refine m_mv rfl (wanted_rd rfl) (run_lod1 _ _ rfl oneI (ev_in rfl (by omega)) mn (by decide) rfl) ?_
            refine m_mv rfl (wanted_rd rfl) (run_eqlI (b := false) _ _ rfl (ev_in rfl (by omega)) (ev_in rfl (by omega)) (decide_eq_false hci) _) ?_
            refine m_mv rfl (wanted_rd rfl) (run_move _ rfl (ev_in rfl (by omega)) _) ?_
            refine m_mv rfl (wanted_g (j := 4) rfl rfl rfl (ev_in rfl (by omega))) (run_move _ rfl (ev_out rfl b14) _) ?_
            refine m_mv rfl (wanted_g (j := 4) rfl rfl rfl (ev_in rfl (by omega))) (run_move _ rfl (ev_out rfl b2) _) ?_
            refine m_mv rfl (wanted_g (j := 4) rfl rfl rfl (ev_in rfl (by omega))) (run_eqlI (b := false) _ _ rfl (ev_in rfl (by omega)) (ev_in rfl (by omega)) (decide_eq_false hcs) _) ?_
            refine m_mv rfl (wanted_rd rfl) (run_pickF _ _ _ rfl (ev_in rfl (by omega)) (ev_in rfl (by omega)) _) ?_
            refine l_nx ?_
            refine c_false (ev_in rfl (by omega)) (c_fin ?_)
            refine c_rs ?_
            refine m_mv rfl (wanted_rd rfl) (run_loadP _ _ rfl manyNd (ev_out rfl b6) mn (by decide)) ?_
            refine m_mv rfl (wanted_rd rfl) (run_move _ rfl (ev_out rfl b1) _) ?_
            refine m_mv rfl (wanted_rd rfl) (run_move _ rfl (ev_out rfl b14) _) ?_
            refine m_mv rfl (wanted_rd rfl) (run_move _ rfl (ev_out rfl b5) _) ?_
            refine m_do rfl (wanted_rd rfl) (fun K hK => ?_)
            have C1 : Calls Try.prog 36 #[ndV n nv, .slice mo L.length mc, .int .i64 (i : Int), .int .i64 2, .int .i64 (many : Int)] W fun e w' => e = .returned (fstV (fL n.id n.fr L (i : Int) 2 (many : Int))) ∧ Below W.heap.size W w' := refFirst_any n _ mo mc L (i : Int) 2 (many : Int) _ (hmr.below kB) hN
            rw [hfl] at C1
            refine wp_call5 _ 36 _ _ _ _ _ _ rfl (ev_in rfl (by omega)) (ev_in rfl (by omega)) (ev_in rfl (by omega)) (ev_const _ _) (ev_in rfl (by omega)) (enter_first _ _ _ _ _ _) C1 ?_
            rintro e w7 ⟨rfl, k7⟩
            have n7 := k7.size
            have mn7 := mn.below k7
            have ow7 := rw_below ow k7
            refine ⟨_, rfl, ?_⟩
            refine hK _ _ ?_
            clear hK K
            refine m_mv rfl (wanted_rd rfl) (run_move _ rfl (ev_in rfl (by omega)) _) ?_
            refine m_mv rfl (wanted_rd rfl) (run_extA _ rfl (ev_in rfl (by omega)) _) ?_
            refine m_mv rfl (wanted_rd rfl) (run_extB _ rfl (ev_in rfl (by omega)) _) ?_
            refine m_mv rfl (wanted_rd rfl) (run_assign _ rfl (ev_in rfl (by omega)) _) ?_
            refine m_mv rfl (wanted_rd rfl) (run_assign _ rfl (ev_in rfl (by omega)) _) ?_
            refine l_nx ?_
            refine c_rs ?_
            refine m_mv rfl (wanted_rd rfl) (run_move _ rfl (ev_in rfl (by omega)) _) ?_
            refine l_nx ?_
            refine c_true (ev_in rfl (by omega)) ?_
            refine c_region ?_
            refine m_mv rfl (wanted_rd rfl) (run_move _ rfl (ev_out rfl b13) _) ?_
            refine m_mv rfl (wanted_rd rfl) (run_move _ rfl (ev_in rfl (by omega)) _) ?_
            refine m_mv rfl (wanted_rd rfl) (run_move _ rfl (ev_out rfl b4) _) ?_
            refine m_mv rfl (wanted_rd rfl) (run_ixN _ _ rfl (a := ca) (n := mm.L.length) (cap := mc2) (ev_in rfl (by omega)) (ev_in rfl (by omega)) (i := k) rfl hl0 _) ?_
            refine m_mv rfl (wanted_rd rfl) (run_ldI _ rfl (ev_in rfl (by omega)) (hy _ (kB.trans (k7.mono (by omega))) k hl0)) ?_
            refine m_do rfl (wanted_rd rfl) (fun K hK => ?_)
            refine wp_row1 _ _ rfl (ev_in rfl (by omega)) ?_
            intro w8 m8 k8 z8
            have mn8 := mn7.below k8
            have ow8 := rw_below ow7 k8
            refine hK _ _ ?_
            clear hK K
            refine m_do rfl (wanted_rd rfl) (fun K hK => ?_)
            refine ⟨wp_joinI _ _ _ rfl w1.heap.size (by omega) v _ _ (ev_in rfl (by omega)) ow8 _ 1 1 _ (ev_in rfl (by omega)) (Or.inr ⟨_, rfl, fun i hi => by rw [add_at, Nat.zero_add]; exact m8.cell hi⟩) (fun i _ => rfl) (by omega) ?_⟩
            intro v9 w9 ov9 k9
            have n9 := k9.size
            have mn9 := mn8.same (k9.block _ (by omega))
            refine hK _ _ ?_
            clear hK K
            refine m_mv rfl (wanted_rd rfl) (run_assign _ rfl (ev_in rfl (by omega)) _) ?_
            refine l_finB ?_
            refine c_region ?_
            refine m_mv rfl (wanted_rd rfl) (run_move _ rfl (ev_out rfl b14) _) ?_
            refine m_mv rfl (wanted_rd rfl) (run_addI _ _ rfl (ev_in rfl (by omega)) (ev_const _ _) (by omega) (by omega) _) ?_
            refine m_mv rfl (wanted_rd rfl) (run_assign _ rfl (ev_in rfl (by omega)) _) ?_
            exact l_round ⟨4 - (i + 1), by omega, i + 1, _, by omega, by omega, (szL _ _).trans hs, (defL _ _).trans hd, (ev_out rfl b1), (ev_out rfl b2), (ev_out rfl b4), (ev_out rfl b5), (ev_out rfl b6), (ev_in rfl (by omega)), (ev_in rfl (by omega)).trans (by rw [Int.natCast_add]; rfl), mn9, by rw [(tk_take (T := fun j => tldN n (L.map Lm.m) j k many) (by omega) (by omega) (tld_some hfl)), List.length_append, List.map_append]; exact ov9, (((kB.trans (k7.mono (by omega))).trans (k8.mono (by omega))).trans (k9.mono (by omega))), by omega⟩
    · refine c_nx ?_
      refine c_rs (m_start ?_)
      refine m_mv rfl (wanted_rd rfl) (run_move _ rfl (ev_out rfl b14) _) ?_
      refine m_mv rfl (wanted_rd rfl) (run_lssI (b := false) _ _ rfl (ev_in rfl (by omega)) (ev_const _ _) (decide_eq_false (by omega)) _) ?_
      refine l_nx ?_
      refine c_false (ev_in rfl (by omega)) (c_exit (x_out ?_))
      refine c_rs ?_
      obtain rfl : i = 4 := by omega
      rw [tk_four (T := fun j => tldN n (L.map Lm.m) j k many) hI4 hs4 (by omega)] at ow
      obtain ⟨ao, cap, rfl, hcap⟩ := rw_slice ow
      refine m_mv rfl (wanted_rd rfl) (run_move _ rfl (ev_out rfl b13) _) ?_
      refine m_do rfl (wanted_rd rfl) (fun K hK => ?_)
      refine wp_call2 _ 53 _ _ _ rfl (ev_in rfl (by omega)) (ev_const _ _) (enter_major _ _ _) (refMajority_rd ao 3 cap (gL [h, tldN n (L.map Lm.m) (o1 I s) k many, tldN n (L.map Lm.m) (o2 I s) k many]) 0 _ (by omega) (owns_rd ow)) ?_
      rintro e w' ⟨m, hm, rfl, rfl⟩
      have em := maj_one hm (dc3_maj _)
      refine ⟨_, rfl, ?_⟩
      refine hK _ _ ?_
      clear hK K
      refine m_mv rfl (wanted_rd rfl) (run_assign _ rfl (ev_in rfl (by omega)) _) ?_
      refine l_nx ?_
      refine c_ret ?_
      refine ret_of ((defL _ _).trans hd) (res_t rfl (ev_in rfl (by omega))) ⟨by unfold tkn; rw [if_neg hsi, em, hI]; rfl, kB⟩

end Go.Proofs.Ytngmeaaglogieaa
