/- Joined: NodOps4, NodBld, NodTun, RefMem, RefNod11, Call5, RefNod6, LawNod1, NodRow. -/
import Derived.Test.YtngmeaaglogieabGreatNear72
import Derived.Test.YtngmeaaglogieabGreatMemOK
import Derived.Test.YtngmeaaglogieabGreatNear65
namespace Go.Proofs.YtngmeaaglogieabGreat
open Go.RowKit

theorem manyVd : Many Tryz.prog 35 3 := Many.of _ Tryz.underlying35 rfl (by kernel_rfl)
theorem manyB4 : Many Tryz.prog 27 4 := Many.of _ Tryz.underlying27 rfl (by kernel_rfl)
theorem zero4i (w : World) : (zeroValue 28).run Tryz.prog w = .ok (agV (fun _ => iV 0) 0 4) w := by kernel_rfl
theorem zeroRol (w : World) : (zeroValue 30).run Tryz.prog w = .ok (agV (nrlF zeroR) 0 12) w := by kernel_rfl
section
variable {f : Operand → Value} {o : Oper}
theorem run_ext3A (x : Operand) (ho : o.op = .extract x 0) {u v s : Value} (hx : f x = .tuple #[u, v, s]) (w : World) : (execOp f o).run Tryz.prog w = .ok (.value u) w := by
  unfold execOp
  rw [ho]
  dsimp only
  rw [hx]
  rfl
theorem run_ext3B (x : Operand) (ho : o.op = .extract x 1) {u v s : Value} (hx : f x = .tuple #[u, v, s]) (w : World) : (execOp f o).run Tryz.prog w = .ok (.value v) w := by
  unfold execOp
  rw [ho]
  dsimp only
  rw [hx]
  rfl
theorem run_ext3C (x : Operand) (ho : o.op = .extract x 2) {u v s : Value} (hx : f x = .tuple #[u, v, s]) (w : World) : (execOp f o).run Tryz.prog w = .ok (.value s) w := by
  unfold execOp
  rw [ho]
  dsimp only
  rw [hx]
  rfl
theorem run_eqlE {b : Bool} (x y : Operand) (ho : o.op = .binOp .eql 52 x y 52) {u v : Int} (hx : f x = .int .i64 u) (hy : f y = .int .i64 v) (hb : decide (u = v) = b) (w : World) : (execOp f o).run Tryz.prog w = .ok (.value (.bool b)) w := by
  have e : (u == v) = b := by rw [← hb, Bool.eq_iff_iff]; simp
  unfold execOp
  rw [ho]
  dsimp only
  rw [hx, hy]
  go_simp
end
theorem ndF_inR (n : Nd) (v : Value) : ∀ j, j < 4 → ndF n v (0 + 27 + 0 + j) = tF n.rl.I j := by
  intro j hj
  have := ndF_in n v hj
  rwa [Nat.mul_one] at this
theorem ndF_rl (n : Nd) (v : Value) : ∀ j, j < 12 → ndF n v (0 + 27 + j) = nrlF n.rl j := by
  intro j hj
  unfold ndF
  rw [if_neg (by omega), if_neg (by omega), if_neg (by omega), if_pos (by omega), show 0 + 27 + j - 27 = j by omega]
theorem ndF_he (n : Nd) (v : Value) {i : Nat} (hi : i < 4) : ndF n v (0 + 51 + i * 1) = .int .i64 (n.he i) := by
  unfold ndF
  rw [if_neg (by omega), if_neg (by omega), if_neg (by omega), if_neg (by omega), if_neg (by omega), if_pos (by omega), show 0 + 51 + i * 1 - 51 = i by omega]
  rfl
/-- A verdict's three cells. -/
def nvdF (x : Int) (b : Bool) (u : Value) (i : Nat) : Value := if i = 0 then iV x else if i = 1 then .bool b else u
theorem ndF_vd (n : Nd) (v : Value) : ∀ j, j < 3 → ndF n v (0 + 71 + j) = nvdF n.vX n.vS v j := by
  intro j hj
  match j, hj with
  | 0, _ => rfl
  | 1, _ => rfl
  | 2, _ => rfl
theorem nrlF_one (r : Rl) : ∀ j, j < 12 → (nrlF r j).oneCell' = true := by
  intro j _
  unfold nrlF iV
  repeat' split
  all_goals rfl
theorem nvdF_one (x : Int) (b : Bool) (ao : Option Addr) (n c : Nat) : ∀ j, j < 3 → (nvdF x b (.slice ao n c) j).oneCell' = true := by
  intro j _
  unfold nvdF iV
  repeat' split
  all_goals rfl
theorem stP_all12 (g : Nat → Value) (h : Nat → Value) : ∀ j, j < 12 → stP g 0 12 h j = h j := fun j hj => by
  have := stP_in g (o := 0) (n := 12) h hj
  rwa [Nat.zero_add] at this

end Go.Proofs.YtngmeaaglogieabGreat

namespace Go.Proofs.YtngmeaaglogieabGreat
open Go.RowKit

section
variable {f : Operand → Value} {o : Oper}
theorem run_bldN0 (ho : o.op = .build 37 #[]) (w : World) : (execOp f o).run Tryz.prog w = .ok (.value (agV (ndF zeroN (.slice none 0 0)) 0 74)) w := by
  unfold execOp
  rw [ho]
  go_simp
  kernel_rfl
theorem run_bldN (a b c : Operand) (ho : o.op = .build 37 #[(0, a), (2, b), (4, c)]) {id : Int} {t : Tn} {r : Rl} (h0 : f a = .int .i64 id) (h1 : f b = agV (ntnF t) 0 4) (h2 : f c = rollV r) (w : World) :
    (execOp f o).run Tryz.prog w = .ok (.value (agV (ndF { zeroN with id := id, tn := t, rl := r } (.slice none 0 0)) 0 74)) w := by
  have h1' : f b = .agg #[.int .i64 t.Dt, .int .i64 t.Q, .int .i64 t.R, .int .i64 t.G] := h1
  unfold rollV at h2
  unfold execOp
  rw [ho]
  simp only [List.map_toArray, List.map_cons, List.map_nil]
  rw [h0, h1', h2]
  clear h0 h1 h1' h2 ho
  change _ = _
  kernel_rfl
end
end Go.Proofs.YtngmeaaglogieabGreat

namespace Go.Proofs.YtngmeaaglogieabGreat
open Go.RowKit

theorem manyTn : Many Tryz.prog 23 4 := Many.of _ Tryz.underlying23 rfl (by kernel_rfl)
theorem ndF_tn (n : Nd) (v : Value) : ∀ j, j < 4 → ndF n v (0 + 2 + j) = ntnF n.tn j := by
  intro j hj
  unfold ndF
  rw [if_neg (by omega), if_pos (by omega), show 0 + 2 + j - 2 = j by omega]

end Go.Proofs.YtngmeaaglogieabGreat

namespace Go.Proofs.YtngmeaaglogieabGreat
open Go.RowKit

end Go.Proofs.YtngmeaaglogieabGreat

namespace Go.Proofs.YtngmeaaglogieabGreat
open Go.RowKit

/-- The axes behind so many. -/
def bgA (x k : Nat) : St := if k < x then St.beg0 else St.nil'
theorem bgA_zero : bgA 0 = zeroN.ax := by funext k; unfold bgA; rw [if_neg (by omega)]; rfl
theorem bgA_next {x : Nat} : (fun k => if k = x then St.beg0 else bgA x k) = bgA (x + 1) := by
  funext k
  unfold bgA
  by_cases c : k = x
  · rw [if_pos c, if_pos (by omega)]
  · rw [if_neg c]
    by_cases c2 : k < x
    · rw [if_pos c2, if_pos (by omega)]
    · rw [if_neg c2, if_neg (by omega)]
def bgN (id : Int) (t : Tn) (ax : Nat → St) : Nd := ⟨id, 0, t, ax, beginR, fun _ _ => 0, fun _ => 0, fun _ _ => 0, fun _ => 0, 0, 0, false, []⟩
theorem bgF_done {id : Int} {t : Tn} {v : Value} : ndF (bgN id t (bgA 3)) v = ndF (bgN id t (fun _ => St.beg0)) v := by
  funext j
  unfold ndF bgN
  dsimp only
  by_cases c2 : j < 2
  · rw [if_pos c2, if_pos c2]
  · rw [if_neg c2, if_neg c2]
    by_cases c6 : j < 6
    · rw [if_pos c6, if_pos c6]
    · rw [if_neg c6, if_neg c6]
      by_cases c27 : j < 27
      · rw [if_pos c27, if_pos c27]
        have e : bgA 3 ((j - 6) / 7) = St.beg0 := by unfold bgA; rw [if_pos (by omega)]
        rw [e]
      · rw [if_neg c27, if_neg c27]
/-- What Begin is held to. -/
def BnOK (fn : Nat) : Prop := ∀ (id : Int) (t : Tn) (w : World), R64 id → t.Ok →
  Calls Tryz.prog fn #[.int .i64 id, agV (ntnF t) 0 4] w fun e w' => ∃ a' c', e = .returned (.tuple #[ndV (begN id t) (.slice a' (begN id t).vA.length c'), .int .i64 (begE id)]) ∧ AgNew w.heap.size w' (begN id t) a' c' ∧ Below w.heap.size w w'
end Go.Proofs.YtngmeaaglogieabGreat

namespace Go.Proofs.YtngmeaaglogieabGreat
open Go

theorem wp_call5 (w : World) {P : Program} {Q : Exit → Act → World → Prop} {o : Oper} {a : Act} {K : Act → World → Prop} (n : Nat) (x y z u v : Operand) (T : Array TypeId) (ho : o.op = .call { callee := .value (.func n), args := #[x, y, z, u, v], argTypes := T }) {p q r s t : Value} (hx : a.eval x = p) (hy : a.eval y = q) (hz : a.eval z = r) (hu : a.eval u = s) (hv : a.eval v = t) (hf : (callFunc n #[p, q, r, s, t]).run P w = .ok (.enter n #[p, q, r, s, t]) w) {R : Ending → World → Prop} (hc : Calls P n #[p, q, r, s, t] w R)
    (h : ∀ e w', R e w' → ∃ r, e = .returned r ∧ K (a.put o.dst r) w') : WpI P o a w K Q := by
  refine ⟨?_⟩
  have e : (execOp a.eval o).run P w = .ok (.enter n #[p, q, r, s, t]) w := by
    unfold execOp
    rw [ho]
    have hv2 : a.eval (Operand.func n) = .func (.func n) #[] #[] := rfl
    simp only [resolve, invoke, Sem.run_bind, List.map_toArray, List.map_cons, List.map_nil, hx, hy, hz, hu, hv, hv2]
    go_simp
  unfold Oper.wp
  rw [e, Oper.upon_enter]
  refine hc.mono ?_
  intro e w' hr
  obtain ⟨r, rfl, hk⟩ := h e w' hr
  exact hk


end Go.Proofs.YtngmeaaglogieabGreat

namespace Go.Proofs.YtngmeaaglogieabGreat
open Go.RowKit

/-- Direct behind the first i nodes; the message's numbers. -/
def relI (n : Nd) (l : List Ms) (i s a : Nat) : Int := if s < i then relD n l s a else n.di s a
def relR (n : Nd) (l : List Ms) (j : Nat) : Int := relD n l (j / 3) (j % 3)
theorem ndF_diC {n : Nd} {d d' : Nat → Nat → Int} {v : Value} (h : ∀ s a, s < 4 → d s a = d' s a) : ndF { n with di := d } v = ndF { n with di := d' } v := by
  funext j
  unfold ndF
  by_cases c2 : j < 2
  · rw [if_pos c2, if_pos c2]
  · rw [if_neg c2, if_neg c2]
    by_cases c6 : j < 6
    · rw [if_pos c6, if_pos c6]
    · rw [if_neg c6, if_neg c6]
      by_cases c27 : j < 27
      · rw [if_pos c27, if_pos c27]
      · rw [if_neg c27, if_neg c27]
        by_cases c39 : j < 39
        · rw [if_pos c39, if_pos c39]
        · rw [if_neg c39, if_neg c39]
          by_cases c51 : j < 51
          · rw [if_pos c51, if_pos c51]
            show iV (d _ _) = iV (d' _ _)
            rw [h _ _ (by omega)]
          · rw [if_neg c51, if_neg c51]
theorem ndF_di (n : Nd) (v : Value) {i a : Nat} (hi : i < 4) (ha : a < 3) : ndF n v (0 + 39 + i * 3 + a * 1) = .int .i64 (n.di i a) := by
  unfold ndF
  rw [if_neg (by omega), if_neg (by omega), if_neg (by omega), if_neg (by omega), if_pos (by omega), show (0 + 39 + i * 3 + a * 1 - 39) / 3 = i by omega, show (0 + 39 + i * 3 + a * 1 - 39) % 3 = a by omega]
  rfl
theorem rel_four (n : Nd) (l : List Ms) : ∀ s a, s < 4 → relI n l 4 s a = relD n l s a := fun s a h => by unfold relI; rw [if_pos h]
theorem rel_none {n : Nd} {L : List Lm} {i : Nat} (h : fL n.id n.fr L (i : Int) 1 3 = none) : ({ n with di := relI n (L.map Lm.m) i } : Nd) = { n with di := relI n (L.map Lm.m) (i + 1) } := by
  congr 1
  funext s a
  unfold relI
  by_cases c1 : s < i
  · rw [if_pos c1, if_pos (by omega)]
  · rw [if_neg c1]
    by_cases c2 : s = i
    · subst c2
      rw [if_pos (by omega)]
      unfold relD
      have := fL_frst n L s 1 3
      rw [show ((3 : Nat) : Int) = 3 from rfl, h] at this
      rw [← this]
      rfl
    · rw [if_neg (by omega)]
theorem rel_some {n : Nd} {L : List Lm} {i : Nat} {c : Lm} (h : fL n.id n.fr L (i : Int) 1 3 = some c) : ({ n with di := fun s a => if s = i then gL c.m.L a else relI n (L.map Lm.m) i s a } : Nd) = { n with di := relI n (L.map Lm.m) (i + 1) } := by
  congr 1
  funext s a
  unfold relI
  by_cases c2 : s = i
  · subst c2
    rw [if_pos rfl, if_pos (by omega)]
    unfold relD
    have := fL_frst n L s 1 3
    rw [show ((3 : Nat) : Int) = 3 from rfl, h] at this
    rw [← this]
    rfl
  · rw [if_neg c2]
    by_cases c1 : s < i
    · rw [if_pos c1, if_pos (by omega)]
    · rw [if_neg c1, if_neg (by omega)]
theorem rel_at {n : Nd} {l : List Ms} {i x : Nat} (hx : x < 3) : iF (relR n l) (3 * i + x) = (fun _ : Nat => iV (relI n l (i + 1) i x)) 0 := by
  show iV (relD n l ((3 * i + x) / 3) ((3 * i + x) % 3)) = iV _
  unfold relI
  rw [if_pos (by omega), show (3 * i + x) / 3 = i by omega, show (3 * i + x) % 3 = x by omega]
theorem msF_set (K F R : Int) (v u : Value) : ∀ j, j < 4 → stW (msF K F R v) (0 + 3) u j = msF K F R u j := by
  intro j hj
  match j, hj with
  | 0, _ => rfl
  | 1, _ => rfl
  | 2, _ => rfl
  | 3, _ => rfl
theorem gL_row (f : Nat → Int) (k : Nat) : rowV (iF (gL ((List.range k).map f))) k = rowV (iF f) k := by
  refine rowV_congr (fun i hi => ?_)
  unfold iF gL
  rw [List.getD_eq_getElem?_getD, List.getElem?_map, List.getElem?_range hi]
  rfl
end Go.Proofs.YtngmeaaglogieabGreat

namespace Go.Proofs.YtngmeaaglogieabGreat
open Go.RowKit

theorem run_bldTn {f : Operand → Value} {o : Oper} (a : Operand) (ho : o.op = .build 23 #[(0, a)]) {x : Int} (h0 : f a = .int .i64 x) (w : World) : (execOp f o).run Tryz.prog w = .ok (.value (agV (ntnF ⟨x, 0, 0, 0⟩) 0 4)) w := by
  unfold execOp
  rw [ho]
  go_simp
  rfl
theorem tn1_ok : (⟨1, 0, 0, 0⟩ : Tn).Ok := by
  constructor <;> exact ⟨by decide, by decide⟩
end Go.Proofs.YtngmeaaglogieabGreat

namespace Go.Proofs.YtngmeaaglogieabGreat
open Go.RowKit

/-- The cells of a row of messages. -/
def lmC (c : Lm) : List Value := [iV c.m.K, iV c.m.F, iV c.m.R, lmV c]
def lmL : List Lm → List Value
  | [] => []
  | c :: L => lmC c ++ lmL L
theorem lmL_append (L M : List Lm) : lmL (L ++ M) = lmL L ++ lmL M := by
  induction L with
  | nil => rfl
  | cons c L ih => show lmC c ++ lmL (L ++ M) = (lmC c ++ lmL L) ++ lmL M; rw [ih, List.append_assoc]
theorem lmL_len (L : List Lm) : (lmL L).length = L.length * 4 := by
  induction L with
  | nil => rfl
  | cons c L ih => show (lmC c ++ lmL L).length = _; rw [List.length_append, ih, List.length_cons]; show 4 + _ = _; omega
theorem lmL_one {L : List Lm} : ∀ u, u ∈ lmL L → u.oneCell' = true := by
  induction L with
  | nil => intro u hu; exact absurd hu (List.not_mem_nil)
  | cons c L ih =>
    intro u hu
    rcases List.mem_append.1 hu with h | h
    · unfold lmC lmV iV at h
      simp at h
      rcases h with rfl | rfl | rfl | rfl <;> rfl
    · exact ih u h
theorem lmL_at (L : List Lm) : ∀ (i : Nat) (c : Lm), L[i]? = some c → ∀ k, k < 4 → (lmL L)[i * 4 + k]? = some (lmF c k) := by
  induction L with
  | nil => intro i c h; simp at h
  | cons d L ih =>
    intro i c h k hk
    show (lmC d ++ lmL L)[i * 4 + k]? = _
    cases i with
    | zero =>
      have e : d = c := by simpa using h
      subst e
      rw [List.getElem?_append_left (by show 0 * 4 + k < 4; omega)]
      match k, hk with
      | 0, _ => rfl
      | 1, _ => rfl
      | 2, _ => rfl
      | 3, _ => rfl
    | succ i =>
      rw [List.getElem?_append_right (by show 4 ≤ _; omega)]
      have := ih i c (by simpa using h) k hk
      rw [← this]
      congr 1
      show (i + 1) * 4 + k - 4 = _
      omega
theorem infoMs : (Tryz.prog.info? 41).map (fun i => (i.zero, i.size, i.bytes)) = some (some (.agg #[.int .i64 0, .int .i64 0, .int .i64 0, .slice none 0 0]), 4, 48) := by kernel_rfl
/-- A message's numbers of one's own; messages of one's own. -/
def OwnV (w : World) (B : Nat) (c : Lm) : Prop := w.ownsRow B 3 1 (lmV c) c.m.L.length (rowV (iF (gL c.m.L)) c.m.L.length)
def OwnM (w : World) (B : Nat) (v : Value) (L : List Lm) : Prop := w.ownsRow B 41 4 v L.length (lmL L) ∧ ∀ c, c ∈ L → OwnV w B c
theorem own_type {t : TypeId} {B s n b : Nat} {w : World} {v : Value} {xs : List Value} (h : w.ownsRow B t s v n xs) (e : v.ownBlock = some b) : ∃ cur, w.heap[b]? = some (.cells cur t (0, 0)) := by
  rcases h.2 with ⟨rfl, h0⟩ | ⟨g, c, cur, rfl, hb, hg, _⟩
  · cases e
  · cases e; exact ⟨cur, hg⟩
theorem OwnM.below {w w' : World} {B : Nat} {v : Value} {L : List Lm} (h : OwnM w B v L) (k : Below w.heap.size w w') : OwnM w' B v L := ⟨rw_below h.1 k, fun c hc => rw_below (h.2 c hc) k⟩
theorem OwnM.nil (w : World) (B : Nat) : OwnM w B (.slice none 0 0) [] := ⟨World.ownsRow_nil _ _ _ _, fun _ h => absurd h (List.not_mem_nil)⟩
theorem OwnM.rd {w : World} {B n cap : Nat} {ao : Option Addr} {L : List Lm} (h : OwnM w B (.slice ao n cap) L) (hl : ∀ c, c ∈ L → c.m.L.length ≤ 17592186044404) : MRd w ao L := by
  refine ⟨fun hp => ?_, fun c hc => ?_⟩
  · rcases h.1.2 with ⟨e, h0⟩ | ⟨g, cp, cur, e, hb, hg, hc, hm, hsz, hcur⟩
    · omega
    · cases e
      refine ⟨g, 0, rfl, fun i c hi k hk => ?_⟩
      have hlt := (List.getElem?_eq_some_iff.1 hi).1
      have h1 := lmL_at L i c hi k hk
      have hL := lmL_len L
      rw [← hcur, List.getElem?_take, if_pos (by omega), Array.getElem?_toList] at h1
      unfold World.cell?
      rw [hg]
      show cur[0 + i * 4 + k]? = _
      rw [Nat.zero_add]
      exact h1
  · obtain ⟨ao2, cap2, e, hs, hc2⟩ := owns_sr (h.2 c hc)
    unfold lmV at e
    cases e
    exact ⟨hs, hc2, hl c hc⟩
/-- A row of one message; one message appended. -/
theorem wp_oneMs (w : World) {o : Oper} {a : Act} {K : Act → World → Prop} {Q : Exit → Act → World → Prop} (x : Operand) (ho : o.op = .buildSlice 38 1 #[(0, x)]) {c : Lm} (hx : a.eval x = agV (lmF c) 0 4)
    (h : ∀ w', Vh 41 w' w.heap.size 4 4 (lmF c) → Below w.heap.size w w' → w'.heap.size = w.heap.size + 1 → K (a.put o.dst (.slice (some ⟨w.heap.size, 0, none⟩) 1 1)) w') : WpI Tryz.prog o a w K Q := by
  have hh := h (w.alloc (.cells #[.int .i64 c.m.K, .int .i64 c.m.F, .int .i64 c.m.R, .slice c.ao c.m.L.length c.cap] 41)) (Vh.of_row (lmF c) 4 (by decide) (by show (w.heap.push _)[w.heap.size]? = _; rw [Array.getElem?_push_size]; rfl)) (al_below _ _) (al_size _ _)
  have hx' : a.eval x = .agg #[.int .i64 c.m.K, .int .i64 c.m.F, .int .i64 c.m.R, .slice c.ao c.m.L.length c.cap] := hx
  have e : (execOp a.eval o).run Tryz.prog w = .ok (.value (.slice (some ⟨w.heap.size, 0, none⟩) 1 1)) (w.alloc (.cells #[.int .i64 c.m.K, .int .i64 c.m.F, .int .i64 c.m.R, .slice c.ao c.m.L.length c.cap] 41)) := by
    clear hx hh
    generalize a.eval = f at hx'
    unfold execOp
    rw [ho]
    simp only [List.map_toArray, List.map_cons, List.map_nil]
    rw [hx']
    go_simp
  refine ⟨?_⟩
  unfold Oper.wp
  rw [e]
  exact hh
theorem wp_joinM2 (w : World) {o : Oper} {a : Act} {K : Act → World → Prop} {Q : Exit → Act → World → Prop} (s x : Operand)
    (ho : o.op = .call { callee := .builtin .append, args := #[s, x], argTypes := #[38, 38] }) (B : Nat) (hB : B ≤ w.heap.size)
    (v : Value) (L : List Lm) (hs : a.eval s = v) (hown : OwnM w B v L) (b : Nat) (c : Lm) (hx : a.eval x = .slice (some ⟨b, 0, none⟩) 1 1) (hc : Vh 41 w b 4 4 (lmF c)) (hcB : OwnV w B c) (hl : L.length ≤ 2932031007317)
    (h : ∀ v' w', OwnM w' B v' (L ++ [c]) → Below B w w' → w.grownBy w' v.ownBlock → K (a.put o.dst v') w') : WpI Tryz.prog o a w K Q := by
  obtain ⟨i0, hi, hz0, hz1, hz2⟩ := info_parts infoMs
  refine ⟨?_⟩
  refine wp_append_own (P := Tryz.prog) w s x 38 ho B 41 i0 (.agg #[.int .i64 0, .int .i64 0, .int .i64 0, .slice none 0 0]) 4 48 Tryz.underlying38 hi hz0 hz1 hz2 rfl (by decide) v L.length (lmL L) hs hown.1 ⟨b, 0, none⟩ 1 1 (lmL [c]) hx rfl ?_ lmL_one (by unfold maxLen; omega) (by omega) hB ?_
  · intro j u hj
    rw [Addr.add_lit, Nat.zero_add]
    rcases Nat.lt_or_ge j 4 with h4 | h4
    · have h1 := lmL_at [c] 0 c rfl j h4
      rw [Nat.zero_mul, Nat.zero_add] at h1
      rw [h1] at hj
      cases hj
      exact hc.cell h4
    · rw [List.getElem?_eq_none (by rw [lmL_len]; exact h4)] at hj
      cases hj
  · intro v' w2 ho2 hgr _
    have apart : ∀ d, OwnV w B d → ∀ g, (lmV d).ownBlock = some g → v.ownBlock ≠ some g := fun d hd g hg e => by
      obtain ⟨u1, hu1⟩ := own_type hd hg
      obtain ⟨u2, hu2⟩ := own_type hown.1 e
      rw [hu1] at hu2
      cases hu2
    refine h v' w2 ⟨?_, ?_⟩ ?_ hgr
    · rw [List.length_append, lmL_append]; exact ho2
    · intro d hd
      rcases List.mem_append.1 hd with hd | hd
      · exact rw_grown (hown.2 d hd) hgr (apart d (hown.2 d hd))
      · simp at hd; subst hd
        exact rw_grown hcB hgr (apart d hcB)
    · refine ⟨hgr.os, hgr.tape, hgr.output, hgr.size, fun k hk => hgr.block k (by omega) (fun e => ?_)⟩
      have := (hown.1.lt k e.symm).1
      omega
theorem wp_joinM (w : World) {o : Oper} {a : Act} {K : Act → World → Prop} {Q : Exit → Act → World → Prop} (s x : Operand)
    (ho : o.op = .call { callee := .builtin .append, args := #[s, x], argTypes := #[38, 38] }) (B : Nat) (hB : B ≤ w.heap.size)
    (v : Value) (L : List Lm) (hs : a.eval s = v) (hown : OwnM w B v L) (b : Nat) (c : Lm) (hx : a.eval x = .slice (some ⟨b, 0, none⟩) 1 1) (hc : Vh 41 w b 4 4 (lmF c)) (hcB : OwnV w B c) (hl : L.length ≤ 2932031007317)
    (h : ∀ v' w', OwnM w' B v' (L ++ [c]) → Below B w w' → K (a.put o.dst v') w') : WpI Tryz.prog o a w K Q :=
  wp_joinM2 w s x ho B hB v L hs hown b c hx hc hcB hl (fun v' w' h1 h2 _ => h v' w' h1 h2)

end Go.Proofs.YtngmeaaglogieabGreat
