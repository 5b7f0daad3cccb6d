/- Joined: BusNew, BusLd. -/
import Derived.Test.YthjeedlhlkggkabBusOps
namespace Go.Proofs.Ythjeedlhlkggkab
open Go.RowKit

section
variable {w w' : World} {B z cap n size : Nat} {t : TypeId} {ao : Option Addr} {L : List Lp}
theorem Room.kept (h : Room w B t size ao cap) (k : Kept z w w') (hz : z < B) : Room w' B t size ao cap := by
  rcases h with h | ⟨b, o, cur, e, hb, hg, hc⟩
  · exact Or.inl h
  · exact Or.inr ⟨b, o, cur, e, hb, (k.block b (lt_of_block hg) (by omega)).trans hg, hc⟩
theorem Sr.room {f : Nat → Value} (h : Sr w ao n cap f) (r : Room w B t size ao cap) (hn : n ≤ cap) (k : Kept z w w') (hz : z < B) : Sr w' ao n cap f := by
  rcases h with h | ⟨x, rfl, hc⟩
  · exact Or.inl h
  · refine Or.inr ⟨x, rfl, fun i hi => ?_⟩
    rcases r with r | ⟨b, o, cur, e, hb, _⟩
    · omega
    · cases e
      have := hc i hi
      rw [Addr.add_lit] at this ⊢
      exact at_kept this k (by show b ≠ z; omega)
theorem QRd.room (h : QRd w ao L) (r : Room w B t size ao cap) (hn : L.length ≤ cap) (k : Kept z w w') (hz : z < B) : QRd w' ao L := fun hl => by
  obtain ⟨b, o, e, hc⟩ := h hl
  refine ⟨b, o, e, fun i c hi => ?_⟩
  rcases r with r | ⟨b2, o2, cur, e2, hb, _⟩
  · omega
  · rw [e] at e2; cases e2
    exact (hc i c hi).same (k.block b (hc i c hi).lt (by omega))
theorem BNew.kept (h : BNew B w ao cap L) (k : Kept z w w') (hz : z < B) : BNew B w' ao cap L :=
  ⟨⟨h.1.1.room h.2.1 h.1.2.1 k hz, h.1.2.1, fun c hc => ⟨(h.1.2.2 c hc).1.room (h.2.2 c hc) (h.1.2.2 c hc).2 k hz, (h.1.2.2 c hc).2⟩⟩, h.2.1.kept k hz, fun c hc => (h.2.2 c hc).kept k hz⟩
end
theorem bnew_nil (w : World) (B : Nat) : BNew B w none 0 [] := ⟨BRd.nil _ _ _, Or.inl rfl, fun _ h => absurd h (by simp)⟩
theorem run_lodU {f : Operand → Value} {o : Oper} (x : Operand) (ho : o.op = .load 25 x) {b : Nat} {N S : Int} {ao : Option Addr} {n c : Nat} (hx : f x = .pointer (some ⟨b, 0, none⟩)) {w : World} (h : BuAt w b N S (.slice ao n c)) :
    (execOp f o).run Try.prog w = .ok (.value (busV N S (.slice ao n c))) w := by
  have c0 := h.cell0; have c1 := h.cell1; have c2 := h.cell2
  unfold execOp
  rw [ho]
  dsimp only
  rw [hx]
  unfold busV
  go_simp
theorem wp_storeU (w : World) {o : Oper} {a : Act} {K : Act → World → Prop} {Q : Exit → Act → World → Prop} (x y : Operand) (ho : o.op = .store 25 x y) {b : Nat} {N S N' S' : Int} {r : Value} {ao : Option Addr} {n c : Nat} (hx : a.eval x = .pointer (some ⟨b, 0, none⟩)) (hy : a.eval y = busV N' S' (.slice ao n c)) (hm : BuAt w b N S r) (hd : o.dst = none)
    (h : ∀ w', BuAt w' b N' S' (.slice ao n c) → Kept b w w' → w'.heap.size = w.heap.size → K a w') : WpI Try.prog o a w K Q := by
  refine ⟨?_⟩
  have c0 := hm.cell0; have c1 := hm.cell1; have c2 := hm.cell2
  have f0 := hm.free 0; have f1 := hm.free 1; have f2 := hm.free 2
  obtain ⟨w', e, m, kp, sz⟩ := hm.put N' S' (.slice ao n c)
  have hh := h w' m kp sz
  rw [e] at hh
  clear hm m kp h e sz
  unfold busV at hy
  unfold Oper.wp execOp
  rw [ho]
  dsimp only
  rw [hx, hy]
  go_simp
  exact hh
theorem run_get2 {f : Operand → Value} {o : Oper} (x : Operand) (i : Nat) (ho : o.op = .extract x i) {u v : Value} (hx : f x = .tuple #[u, v]) {r : Value} (hr : (#[u, v] : Array Value)[i]? = some r) (w : World) : (execOp f o).run Try.prog w = .ok (.value r) w := by
  unfold execOp
  rw [ho]
  dsimp only
  rw [hx]
  go_simp
/-- Four numbers and bytes in a variable of whatever type. -/
theorem pc_block {w : World} {t : TypeId} {b : Nat} {p : Pc} {v : Value} (h : w.heap[b]? = some (.cells #[.int .i64 p.fr, .int .i64 p.to, .int .i64 p.du, .int .i64 p.se, v] t (0, 0))) : PcAt w b 0 p v := by
  unfold PcAt World.cell?
  simp [h]
theorem pc_new (w : World) (t : TypeId) (p : Pc) (v : Value) : PcAt (w.alloc (.cells #[.int .i64 p.fr, .int .i64 p.to, .int .i64 p.du, .int .i64 p.se, v] t)) w.heap.size 0 p v :=
  pc_block (t := t) (by
    show (w.heap.push _)[w.heap.size]? = _
    rw [Array.getElem?_push_size])
theorem PcAt.zero {w : World} {b : Nat} {p : Pc} {v : Value} (h : PcAt w b 0 p v) : w.cell? ⟨b, 0, none⟩ = some (.int .i64 p.fr) ∧ w.cell? ⟨b, 1, none⟩ = some (.int .i64 p.to) ∧ w.cell? ⟨b, 2, none⟩ = some (.int .i64 p.du) ∧ w.cell? ⟨b, 3, none⟩ = some (.int .i64 p.se) ∧ w.cell? ⟨b, 4, none⟩ = some v := by
  unfold PcAt at h
  simp only [Nat.zero_add] at h
  exact h
theorem PcAt.kept {w w' : World} {b o z : Nat} {p : Pc} {v : Value} (h : PcAt w b o p v) (k : Kept z w w') (hz : b ≠ z) : PcAt w' b o p v := h.same (k.block b h.lt hz)
theorem wp_call5 (w : World) {P : Program} {Q : Exit → Act → World → Prop} {o : Oper} {a : Act} {K : Act → World → Prop} (n : Nat) (x y z u v : Operand) (T : Array TypeId) (ho : o.op = .call { callee := .value (.func n), args := #[x, y, z, u, v], argTypes := T }) {p q r s t : Value} (hx : a.eval x = p) (hy : a.eval y = q) (hz : a.eval z = r) (hu : a.eval u = s) (hv : a.eval v = t) (hf : (callFunc n #[p, q, r, s, t]).run P w = .ok (.enter n #[p, q, r, s, t]) w) {R : Ending → World → Prop} (hc : Calls P n #[p, q, r, s, t] w R)
    (h : ∀ e w', R e w' → ∃ r, e = .returned r ∧ K (a.put o.dst r) w') : WpI P o a w K Q := by
  refine ⟨?_⟩
  have e : (execOp a.eval o).run P w = .ok (.enter n #[p, q, r, s, t]) w := by
    unfold execOp
    rw [ho]
    have hv2 : a.eval (Operand.func n) = .func (.func n) #[] #[] := rfl
    simp only [resolve, invoke, Sem.run_bind, List.map_toArray, List.map_cons, List.map_nil, hx, hy, hz, hu, hv, hv2]
    go_simp
  unfold Oper.wp
  rw [e, Oper.upon_enter]
  refine hc.mono ?_
  intro e w' hr
  obtain ⟨r, rfl, hk⟩ := h e w' hr
  exact hk

end Go.Proofs.Ythjeedlhlkggkab

namespace Go.Proofs.Ythjeedlhlkggkab
open Go.RowKit

/-- A number counted round. -/
def spF (a n : Int) : Nat := if a.tmod n < 0 then (a.tmod n + n).toNat else (a.tmod n).toNat
theorem spF_lt (a : Int) {n : Int} (hn : 0 < n) : ((spF a n : Nat) : Int) < n := by
  have b1 := Int.tmod_lt_of_pos a hn
  have b2 : -n < a.tmod n := by
    have := Int.tmod_lt_of_pos (-a) hn
    rw [Int.neg_tmod] at this
    omega
  unfold spF
  split <;> omega
set_option maxHeartbeats 400000 in
theorem spF_any (a n : Int) (hn : 0 < n) (hn2 : n ≤ 2000000000000000) (w : World) :
    Calls Try.prog 7 #[.int .i64 a, .int .i64 n] w fun e w' => e = .returned (.int .i64 (spF a n : Nat)) ∧ w' = w := by
  have b1 := Int.tmod_lt_of_pos a hn
  have b2 : -n < a.tmod n := by
    have := Int.tmod_lt_of_pos (-a) hn
    rw [Int.neg_tmod] at this
    omega
  have h0 : ¬ n = 0 := by omega
  by_cases h : a.tmod n < 0
  · have E := hide (show ((spF a n : Nat) : Int) = a.tmod n + n by unfold spF; rw [if_pos h]; omega)
    go_enter Try.func7, Try.ntmps7
    go_wp2
    go_ret
    exact ⟨by rw [unhide E]; rfl, rfl⟩
  · have E := hide (show ((spF a n : Nat) : Int) = a.tmod n by unfold spF; rw [if_neg h]; omega)
    go_enter Try.func7, Try.ntmps7
    go_wp2
    go_ret
    exact ⟨by rw [unhide E]; rfl, rfl⟩
theorem enter_spot (u p : Value) (w : World) : (callFunc 7 #[u, p]).run Try.prog w = .ok (.enter 7 #[u, p]) w := by go_simp

/-- A load, and where its bytes lie. -/
structure Ld where
  fr : Int
  to : Int
  dl : Int
  ds : List Nat
  ao : Option Addr
  cap : Nat
/-- The parcel that is sent of it. -/
def ldP (i : Nat) (l : Ld) : Pc := ⟨(spF l.fr 4 : Nat), ((spF l.fr 4 + 1 + spF l.to 3) % 4 : Nat), (spF l.dl 1001 : Nat), (i : Nat), l.ds.take 220⟩
def ldQ (D : List Ld) : Nat → List Pc
  | 0 => []
  | k + 1 => ldQ D k ++ (match D[k]? with | some l => [ldP k l] | none => [])
theorem ldQ_next {D : List Ld} {k : Nat} {l : Ld} (h : D[k]? = some l) : ldQ D (k + 1) = ldQ D k ++ [ldP k l] := by show ldQ D k ++ _ = _; rw [h]
theorem ldQ_len {D : List Ld} {k : Nat} (h : k ≤ D.length) : (ldQ D k).length = k := by
  induction k with
  | zero => rfl
  | succ k ih => rw [ldQ_next (List.getElem?_eq_getElem (show k < D.length by omega)), List.length_append, ih (by omega)]; rfl
theorem ldQ_at {D : List Ld} {k : Nat} (h : k ≤ D.length) : ∀ {i : Nat} {p : Pc}, (ldQ D k)[i]? = some p → ∃ l, D[i]? = some l ∧ p = ldP i l := by
  induction k with
  | zero => intro i p hp; simp [ldQ] at hp
  | succ k ih =>
    intro i p hp
    have hk := List.getElem?_eq_getElem (show k < D.length by omega)
    rw [ldQ_next hk] at hp
    by_cases e : i < k
    · rw [List.getElem?_append_left (by rw [ldQ_len (by omega)]; exact e)] at hp
      exact ih (by omega) hp
    · rw [List.getElem?_append_right (by rw [ldQ_len (by omega)]; omega), ldQ_len (by omega)] at hp
      have e2 : i = k := by
        rcases Nat.eq_zero_or_pos (i - k) with h | h
        · omega
        · rw [List.getElem?_eq_none (by simp; omega)] at hp; cases hp
      subst e2
      simp at hp
      exact ⟨_, hk, hp.symm⟩
theorem ldQ_ok {D : List Ld} {k : Nat} (h : k ≤ D.length) (hD : ∀ l, l ∈ D → ∀ x, x ∈ l.ds → x < 256) (h1 : k ≤ 100) : BsOK ⟨0, (k : Nat), ldQ D k⟩ := by
  refine ⟨by unfold R64; dsimp only; omega, by unfold R64; dsimp only; omega, fun p hp => ?_, by dsimp only; rw [ldQ_len h]; omega⟩
  obtain ⟨i, hi⟩ := List.getElem?_of_mem hp
  obtain ⟨l, hl, rfl⟩ := ldQ_at h hi
  have hik : i < k := by have := (List.getElem?_eq_some_iff.1 hi).1; dsimp only at this; rw [ldQ_len h] at this; exact this
  have a1 := spF_lt l.fr (n := 4) (by omega); have a3 := spF_lt l.dl (n := 1001) (by omega)
  refine ⟨by unfold R64 ldP; dsimp only; omega, by unfold R64 ldP; dsimp only; omega, by unfold R64 ldP; dsimp only; omega, by unfold R64 ldP; dsimp only; omega, fun x hx => hD l (List.mem_of_getElem? hl) x (List.mem_of_mem_take hx), ?_⟩
  show (l.ds.take 220).length ≤ _
  rw [List.length_take]; omega
theorem ldSend {D : List Ld} {k : Nat} {l : Ld} (hk : k < 100) (h : D[k]? = some l) :
    sendE 0 (ldQ D k).length (spF l.fr 4 : Nat) ((spF l.fr 4 + 1 + spF l.to 3) % 4 : Nat) (spF l.dl 1001 : Nat) (l.ds.take 220).length = 0 ∧
    sendS ⟨0, (k : Nat), ldQ D k⟩ (spF l.fr 4 : Nat) ((spF l.fr 4 + 1 + spF l.to 3) % 4 : Nat) (l.ds.take 220) (spF l.dl 1001 : Nat) = ⟨0, (k + 1 : Nat), ldQ D (k + 1)⟩ := by
  have a1 := spF_lt l.fr (n := 4) (by omega); have a2 := spF_lt l.to (n := 3) (by omega); have a3 := spF_lt l.dl (n := 1001) (by omega)
  have hl := (List.getElem?_eq_some_iff.1 h).1
  have hq : (ldQ D k).length = k := ldQ_len (by omega)
  have ht : (l.ds.take 220).length ≤ 220 := by rw [List.length_take]; omega
  have hE : sendE 0 (ldQ D k).length (spF l.fr 4 : Nat) ((spF l.fr 4 + 1 + spF l.to 3) % 4 : Nat) (spF l.dl 1001 : Nat) (l.ds.take 220).length = 0 := by
    unfold sendE
    rw [if_neg (by omega), if_neg (by omega), if_neg (by omega)]
  refine ⟨hE, ?_⟩
  unfold sendS
  dsimp only
  rw [if_pos hE, ldQ_next h]
  have e : wrapS ((k : Nat) : Int) = ((k + 1 : Nat) : Int) := by unfold wrapS; rw [if_neg (by omega)]; omega
  rw [e]
  unfold ldP
  simp

/-- A load's four cells; loads in memory. -/
def LdAt (w : World) (b o : Nat) (l : Ld) : Prop :=
  w.cell? ⟨b, o, none⟩ = some (.int .i64 l.fr) ∧ w.cell? ⟨b, o + 1, none⟩ = some (.int .i64 l.to) ∧ w.cell? ⟨b, o + 2, none⟩ = some (.int .i64 l.dl) ∧ w.cell? ⟨b, o + 3, none⟩ = some (.slice l.ao l.ds.length l.cap)
theorem LdAt.below {w w' : World} {b o : Nat} {l : Ld} (h : LdAt w b o l) (k : Below w.heap.size w w') : LdAt w' b o l := ⟨at_below h.1 k, at_below h.2.1 k, at_below h.2.2.1 k, at_below h.2.2.2 k⟩
def LRd (w : World) (ao : Option Addr) (D : List Ld) : Prop := (0 < D.length → ∃ b o, ao = some ⟨b, o, none⟩ ∧ ∀ i l, D[i]? = some l → LdAt w b (o + i * 4) l) ∧ ∀ l, l ∈ D → Sr w l.ao l.ds.length l.cap (bF (gF l.ds)) ∧ l.ds.length ≤ l.cap
theorem LRd.below {w w' : World} {ao : Option Addr} {D : List Ld} (h : LRd w ao D) (k : Below w.heap.size w w') : LRd w' ao D :=
  ⟨fun hl => by obtain ⟨b, o, e, hc⟩ := h.1 hl; exact ⟨b, o, e, fun i l hi => (hc i l hi).below k⟩, fun l hl => ⟨(h.2 l hl).1.below k, (h.2 l hl).2⟩⟩
def LdOK (l : Ld) : Prop := R64 l.fr ∧ R64 l.to ∧ R64 l.dl ∧ (∀ x, x ∈ l.ds → x < 256) ∧ l.ds.length ≤ 140737488351232
theorem gF_take {ds : List Nat} {k i : Nat} (h : i < k) : gF (ds.take k) i = gF ds i := by
  unfold gF
  rw [List.getD_eq_getElem?_getD, List.getD_eq_getElem?_getD, List.getElem?_take_of_lt h]
theorem run_ixL {f : Operand → Value} {o : Oper} (x y : Operand) (ho : o.op = .indexAddr 22 x y) {b off n cap i : Nat} (hx : f x = .slice (some ⟨b, off, none⟩) n cap) (hy : f y = .int .i64 (i : Int)) (hi : i < n) (w : World) :
    (execOp f o).run Try.prog w = .ok (.value (.pointer (some ⟨b, off + i * 4, none⟩))) w := by
  have hi2 : (i : Int) < n := by omega
  unfold execOp
  rw [ho]
  dsimp only
  rw [hx, hy]
  go_simp
theorem run_fldL {f : Operand → Value} {o : Oper} (x : Operand) (k : Nat) (ho : o.op = .fieldAddr 48 x k) {b off : Nat} (hx : f x = .pointer (some ⟨b, off, none⟩)) (hk : k < 4) (w : World) :
    (execOp f o).run Try.prog w = .ok (.value (.pointer (some ⟨b, off + k, none⟩))) w := by
  have : k = 0 ∨ k = 1 ∨ k = 2 ∨ k = 3 := by omega
  unfold execOp
  rw [ho]
  dsimp only
  rw [hx]
  rcases this with rfl | rfl | rfl | rfl <;> go_simp
theorem run_rem4 {f : Operand → Value} {o : Oper} (x y : Operand) (ho : o.op = .binOp .rem 3 x y 3) {u : Nat} (hx : f x = .int .i64 (u : Nat)) (hy : f y = .int .i64 4) (hu : u < 1000) (w : World) : (execOp f o).run Try.prog w = .ok (.value (.int .i64 (u % 4 : Nat))) w := by
  have e : (u : Int).tmod 4 = ((u % 4 : Nat) : Int) := by rw [Int.tmod_eq_emod_of_nonneg (by omega)]; omega
  unfold execOp
  rw [ho]
  dsimp only
  rw [hx, hy]
  go_simp
theorem wp_allocU (w : World) {o : Oper} {a : Act} {K : Act → World → Prop} {Q : Exit → Act → World → Prop} (ho : o.op = .alloc 25)
    (h : ∀ w', BuAt w' w.heap.size 0 0 (.slice none 0 0) → Below w.heap.size w w' → w'.heap.size = w.heap.size + 1 → K (a.put o.dst (.pointer (some ⟨w.heap.size, 0, none⟩))) w') : WpI Try.prog o a w K Q := by
  refine ⟨?_⟩
  have hh := h _ (BuAt.new w 0 0 (.slice none 0 0)) (al_below _ _) (al_size _ _)
  unfold Oper.wp execOp
  rw [ho]
  go_simp
  exact hh

end Go.Proofs.Ythjeedlhlkggkab
