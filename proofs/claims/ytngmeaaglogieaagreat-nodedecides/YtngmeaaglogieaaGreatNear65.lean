/- Joined: LawNod3, Call6, NodTkn, BigWalks, BigGive, BigAdd. -/
import Derived.Test.YtngmeaaglogieaaGreatNear80
import Derived.Test.YtngmeaaglogieaaGreatNear17
import Derived.Test.YtngmeaaglogieaaGreatNear59
import Derived.Test.YtngmeaaglogieaaGreatNear69
import Derived.Test.YtngmeaaglogieaaGreatFixWalks
import Derived.Test.YtngmeaaglogieaaGreatBigPlain
import Derived.OneCell
import Derived.Deep.OwnRows
namespace Go.Proofs.YtngmeaaglogieaaGreat
open Go.RowKit

theorem enter_msgs (x : Value) (w : World) : (callFunc 6 #[x]).run Tryz.prog w = .ok (.enter 6 #[x]) w := by go_simp
theorem enter_begun (w : World) : (callFunc 8 #[]).run Tryz.prog w = .ok (.enter 8 #[]) w := by go_simp
theorem enter_samen (x y : Value) (w : World) : (callFunc 9 #[x, y]).run Tryz.prog w = .ok (.enter 9 #[x, y]) w := by go_simp
theorem enter_samem (x y : Value) (w : World) : (callFunc 10 #[x, y]).run Tryz.prog w = .ok (.enter 10 #[x, y]) w := by go_simp
theorem sr_own {t : TypeId} {w : World} {B n c : Nat} {ao : Option Addr} {g : Nat → Value} (h : w.ownsRow B t 1 (.slice ao n c) n (rowV g n)) : Sr w ao n c g := by
  obtain ⟨ao2, cap, e, hs, _⟩ := owns_sr h
  cases e
  exact hs
theorem ms_rd {w w' : World} {B : Nat} {mo mo' : Option Addr} {k mc' : Nat} {L M : List Lm} (hM : M.map Lm.m = L.map Lm.m) (h : MRd w mo L) (o : OwnM w' B (.slice mo' k mc') M) : MRd w' mo' M := by
  refine o.rd (fun c hc => ?_)
  have : c.m ∈ L.map Lm.m := by rw [← hM]; exact List.mem_map_of_mem hc
  obtain ⟨d, hd, e⟩ := List.mem_map.1 this
  rw [← e]
  exact (h.2 d hd).2.2
theorem ms_R {L M : List Lm} (hM : M.map Lm.m = L.map Lm.m) (hRL : ∀ m, m ∈ L → ∀ i, R64 (gL m.m.L i)) : ∀ m, m ∈ M → ∀ i, R64 (gL m.m.L i) := by
  intro c hc
  have : c.m ∈ L.map Lm.m := by rw [← hM]; exact List.mem_map_of_mem hc
  obtain ⟨d, hd, e⟩ := List.mem_map.1 this
  rw [← e]
  exact hRL d hd
theorem ms_nil {w : World} : MRd w none [] := ⟨fun h => absurd h (by decide), fun c h => absurd h (List.not_mem_nil)⟩
theorem begN_ok : NdOK (begN 2 ⟨1, 0, 0, 0⟩) := by
  have z : R64 0 := ⟨by decide, by decide⟩
  have u : R64 4294967296 := ⟨by decide, by decide⟩
  exact ⟨⟨by decide, by decide⟩, z, tn1_ok, fun a => ⟨z, z, u, z, u, z⟩, fun i => z, fun i => z, fun s a => z, fun s => z, fun s a => z, fun a => z, z, z, by decide⟩

end Go.Proofs.YtngmeaaglogieaaGreat

namespace Go.Proofs.YtngmeaaglogieaaGreat
open Go

theorem wp_call6 (w : World) {P : Program} {Q : Exit → Act → World → Prop} {o : Oper} {a : Act} {K : Act → World → Prop} (n : Nat) (x y z u v x6 : Operand) (T : Array TypeId) (ho : o.op = .call { callee := .value (.func n), args := #[x, y, z, u, v, x6], argTypes := T }) {p q r s t p6 : Value} (hx : a.eval x = p) (hy : a.eval y = q) (hz : a.eval z = r) (hu : a.eval u = s) (hv : a.eval v = t) (h6 : a.eval x6 = p6) (hf : (callFunc n #[p, q, r, s, t, p6]).run P w = .ok (.enter n #[p, q, r, s, t, p6]) w) {R : Ending → World → Prop} (hc : Calls P n #[p, q, r, s, t, p6] w R)
    (h : ∀ e w', R e w' → ∃ r, e = .returned r ∧ K (a.put o.dst r) w') : WpI P o a w K Q := by
  refine ⟨?_⟩
  have e : (execOp a.eval o).run P w = .ok (.enter n #[p, q, r, s, t, p6]) w := by
    unfold execOp
    rw [ho]
    have hv2 : a.eval (Operand.func n) = .func (.func n) #[] #[] := rfl
    simp only [resolve, invoke, Sem.run_bind, List.map_toArray, List.map_cons, List.map_nil, hx, hy, hz, hu, hv, h6, hv2]
    go_simp
  unfold Oper.wp
  rw [e, Oper.upon_enter]
  refine hc.mono ?_
  intro e w' hr
  obtain ⟨r, rfl, hk⟩ := h e w' hr
  exact hk

theorem wp_call3n (w : World) {P : Program} {Q : Exit → Act → World → Prop} {o : Oper} {a : Act} {K : Act → World → Prop} (n : Nat) (x y z : Operand) (T : Array TypeId) (ho : o.op = .call { callee := .value (.func n), args := #[x, y, z], argTypes := T }) {p q r : Value} (hx : a.eval x = p) (hy : a.eval y = q) (hz : a.eval z = r) (hf : (callFunc n #[p, q, r]).run P w = .ok (.enter n #[p, q, r]) w) {R : Ending → World → Prop} (hc : Calls P n #[p, q, r] w R)
    (h : ∀ e w', R e w' → ∃ r, e = .returned r ∧ K (a.put o.dst r) w') : WpI P o a w K Q := by
  refine ⟨?_⟩
  have e : (execOp a.eval o).run P w = .ok (.enter n #[p, q, r]) w := by
    unfold execOp
    rw [ho]
    have hv2 : a.eval (Operand.func n) = .func (.func n) #[] #[] := rfl
    simp only [resolve, invoke, Sem.run_bind, List.map_toArray, List.map_cons, List.map_nil, hx, hy, hz, hv2]
    go_simp
  unfold Oper.wp
  rw [e, Oper.upon_enter]
  refine hc.mono ?_
  intro e w' hr
  obtain ⟨r, rfl, hk⟩ := h e w' hr
  exact hk


end Go.Proofs.YtngmeaaglogieaaGreat

namespace Go.Proofs.YtngmeaaglogieaaGreat
open Go.RowKit

theorem R64_zero : R64 0 := ⟨by decide, by decide⟩
theorem gL_R {l : List Int} (h : ∀ x, x ∈ l → R64 x) (i : Nat) : R64 (gL l i) := by
  unfold gL
  rw [List.getD_eq_getElem?_getD]
  rcases Nat.lt_or_ge i l.length with c | c
  · rw [List.getElem?_eq_getElem c]
    exact h _ (List.getElem_mem c)
  · rw [List.getElem?_eq_none c]
    exact R64_zero
theorem dc3_R {a b c : Int} (ha : R64 a) (hb : R64 b) : R64 (dc3 a b c) := by
  unfold dc3
  split
  · exact ha
  · split
    · exact ha
    · split
      · exact hb
      · exact R64_zero
theorem frst_mem {n : Nd} {L : List Lm} {s : Nat} {kind : Int} {many : Nat} {v : List Int} (h : frst n (L.map Lm.m) s kind many = some v) : ∃ c, c ∈ L ∧ c.m.L = v := by
  rw [← fL_frst] at h
  obtain ⟨c, h1, h2⟩ := Option.map_eq_some_iff.1 h
  exact ⟨c, List.mem_of_find?_eq_some h1, h2⟩
theorem tld_R {n : Nd} {L : List Lm} (hRL : ∀ m, m ∈ L → ∀ i, R64 (gL m.m.L i)) (i k many : Nat) : R64 (tldN n (L.map Lm.m) i k many) := by
  unfold tldN
  cases e : frst n (L.map Lm.m) i 2 many with
  | none => exact R64_zero
  | some v =>
    obtain ⟨c, h1, rfl⟩ := frst_mem e
    exact hRL c h1 k
theorem tkn_R {n : Nd} {L : List Lm} (hRL : ∀ m, m ∈ L → ∀ i, R64 (gL m.m.L i)) {s : Nat} {h : Int} {k many : Nat} (hh : R64 h) : R64 (tkn n (L.map Lm.m) s h k many) := by
  unfold tkn
  split
  · exact hh
  · exact dc3_R hh (tld_R hRL _ _ _)
theorem enter_taken (x y z u v s : Value) (w : World) : (callFunc 22 #[x, y, z, u, v, s]).run Tryz.prog w = .ok (.enter 22 #[x, y, z, u, v, s]) w := by go_simp

end Go.Proofs.YtngmeaaglogieaaGreat

namespace Go.Proofs.YtngmeaaglogieaaGreat
open Go.RowKit

set_option maxHeartbeats 400000 in
theorem trim_core (b cap n : Nat) (f : Nat → Int) (hc : n ≤ cap) (hm : cap ≤ 1099511627776) (w : World) (hr : Row w b n f) :
    Calls Tryz.prog 98 #[.slice (some ⟨b, 0, none⟩) n cap] w fun e w' =>
      ∃ m : Nat, e = .returned (.slice (some ⟨b, 0, none⟩) m cap) ∧ m ≤ n ∧ (∀ i, m ≤ i → i < n → f i = 0) ∧ Nm m f ∧ w' = w := by
  have HR := hide hr
  clear hr
  go_enter Tryz.func98, Tryz.ntmps98
  go_wp2_with fail
  go_loop [3] (fun i => ∃ m : Nat, i = .int .i64 m ∧ m ≤ n ∧ ∀ i, m ≤ i → i < n → f i = 0) (fun i => (intOf i).toNat)
  case atStart => exact ⟨n, rfl, Nat.le_refl _, fun i hi h2 => by omega⟩
  case round =>
    obtain ⟨m, rfl, hm2, hz⟩ := hrel
    have HZ := hide hz
    clear hz
    by_cases h0 : m = 0
    · subst h0
      go_wp2_with fail
      go_ret
      exact ⟨0, rfl, by omega, unhide HZ, Or.inl rfl, rfl⟩
    · obtain ⟨k, rfl⟩ : ∃ k, m = k + 1 := ⟨m - 1, by omega⟩
      have hcell := unhide HR k (by omega)
      by_cases hx : f k = 0
      · have ht : (f k == 0) = true := by simpa using hx
        have HX := hide hx
        clear hx h0
        go_wp2_with fail
        go_round
        case rel => exact ⟨k, by go_num, by omega, fun i hi h2 => by
          rcases Nat.lt_or_ge k i with h | h
          · exact unhide HZ i (by omega) h2
          · have : i = k := by omega
            subst this; exact unhide HX⟩
        case measure => simp [intOf]
      · have ht : (f k == 0) = false := by simpa using hx
        have HX := hide hx
        clear hx h0
        go_wp2_with fail
        go_ret
        exact ⟨k + 1, rfl, by omega, unhide HZ, Or.inr (unhide HX), rfl⟩

set_option maxHeartbeats 400000 in
theorem words_any (x : Int) (x0 : 0 ≤ x) (x1 : x < 18446744073709551616) (w : World) :
    Calls Tryz.prog 97 #[.int .u64 x] w fun e w' =>
      ∃ (v : Value) (m : Nat) (f : Nat → Int), e = .returned v ∧ Sl w' v m f ∧ Wd m f ∧ Nm m f ∧ val f m = x ∧ Below w.heap.size w w' := by
  go_enter Tryz.func97, Tryz.ntmps97
  go_wp2_with fail
  have hr : Row (w.alloc (.cells #[.int .u32 (x % 4294967296), .int .u32 (x / 4294967296)] 116)) w.heap.size 2 (fun i => if i = 0 then x % 4294967296 else x / 4294967296) := by
    intro i hi
    rw [World.cell?_alloc_new]
    match i, hi with
    | 0, _ => rfl
    | 1, _ => rfl
  refine (trim_core w.heap.size 2 2 _ (by decide) (by decide) _ hr).mono ?_
  rintro e w1 ⟨m, rfl, hm, hz, hn, rfl⟩
  have hw : Wd 2 (fun i => if i = 0 then x % 4294967296 else x / 4294967296) := by
    intro i hi
    match i, hi with
    | 0, _ => exact ⟨by show 0 ≤ x % 4294967296; omega, by show x % 4294967296 < 4294967296; omega⟩
    | 1, _ => exact ⟨by show 0 ≤ x / 4294967296; omega, by show x / 4294967296 < 4294967296; omega⟩
  have hv : val (fun i => if i = 0 then x % 4294967296 else x / 4294967296) 2 = x := by
    show 0 + x % 4294967296 * 4294967296 ^ 0 + x / 4294967296 * 4294967296 ^ 1 = x
    simp only [Int.reducePow]; omega
  rw [val_noughts hm hz] at hv
  have F := hide (show ∃ (v : Value) (m' : Nat) (f : Nat → Int), Ending.returned (Value.slice (some ⟨w.heap.size, 0, none⟩) m 2) = Ending.returned v ∧ Sl (w.alloc (.cells #[.int .u32 (x % 4294967296), .int .u32 (x / 4294967296)] 116)) v m' f ∧ Wd m' f ∧ Nm m' f ∧ val f m' = x ∧ Below w.heap.size w (w.alloc (.cells #[.int .u32 (x % 4294967296), .int .u32 (x / 4294967296)] 116)) from
    ⟨_, m, _, rfl, Or.inr ⟨w.heap.size, 2, rfl, hm, by decide, by simp, hr.less hm⟩, hw.less hm, hn, hv, (Below.refl _ _).alloc (Nat.le_refl _) _⟩)
  clear hr hw hv hn hz
  go_wp2_with fail
  go_ret
  exact unhide F

end Go.Proofs.YtngmeaaglogieaaGreat

namespace Go.Proofs.YtngmeaaglogieaaGreat
open Go.RowKit

/-- The number at block b: its sign's cell and its words' cell. -/
def IntAt (w : World) (b : Nat) (s v : Value) : Prop := w.heap[b]? = some (.cells #[s, v] 109 (0, 0))

theorem IntAt.cell0 {w : World} {b : Nat} {s v : Value} (h : IntAt w b s v) : w.cell? ⟨b, 0, none⟩ = some s := by
  unfold IntAt at h; simp [World.cell?, h]
theorem IntAt.cell1 {w : World} {b : Nat} {s v : Value} (h : IntAt w b s v) : w.cell? ⟨b, 1, none⟩ = some v := by
  unfold IntAt at h; simp [World.cell?, h]
theorem IntAt.free {w : World} {b : Nat} {s v : Value} (h : IntAt w b s v) (i : Nat) : w.frozen? ⟨b, i, none⟩ = false := by
  unfold IntAt at h; simp [World.frozen?, h]
theorem IntAt.lt {w : World} {b : Nat} {s v : Value} (h : IntAt w b s v) : b < w.heap.size := lt_of_block h
theorem IntAt.kept {z : Nat} {w w' : World} {b : Nat} {s v : Value} (h : IntAt w b s v) (k : Kept z w w') (hz : b ≠ z) : IntAt w' b s v := by
  unfold IntAt at h ⊢; rw [k.block b (lt_of_block h) hz]; exact h
theorem IntAt.below {w w' : World} {b : Nat} {s v : Value} (h : IntAt w b s v) (k : Below w.heap.size w w') : IntAt w' b s v := by
  unfold IntAt at h ⊢; rw [k.block b (lt_of_block h)]; exact h
theorem Kept.refl (z : Nat) (w : World) : Kept z w w := ⟨rfl, rfl, rfl, Nat.le_refl _, fun _ _ _ => rfl⟩
theorem Kept.setCell {z : Nat} {a w : World} (h : Kept z a w) (i : Nat) (u : Value) : Kept z a (w.setCell ⟨z, i, none⟩ u) :=
  ⟨h.os, h.tape, h.output, by simpa [World.setCell] using h.size, fun k hk hn => (heap_setCell_other w ⟨z, i, none⟩ k u hn).trans (h.block k hk hn)⟩
theorem give_world {w : World} {z : Nat} {n0 v0 : Value} (hz : IntAt w z n0 v0) (s v : Value) :
    IntAt ((w.setCell ⟨z, 1, none⟩ v).setCell ⟨z, 0, none⟩ s) z s v := by
  unfold IntAt at hz ⊢
  have h1 := heap_setCell_same w z 1 _ _ v hz
  have h2 := heap_setCell_same _ z 0 _ _ s h1
  exact h2

set_option maxHeartbeats 400000 in
theorem give_any (z n cap : Nat) (ao : Option Addr) (neg : Bool) (n0 v0 : Value) (w : World) (hz : IntAt w z n0 v0) :
    Calls Tryz.prog 59 #[.pointer (some ⟨z, 0, none⟩), .bool neg, .slice ao n cap] w fun e w' =>
      e = .returned (.pointer (some ⟨z, 0, none⟩)) ∧ IntAt w' z (.bool (neg && decide (0 < n))) (.slice ao n cap) ∧ Kept z w w' := by
  have c0 := hz.cell0; have c1 := hz.cell1; have f0 := hz.free 0; have f1 := hz.free 1
  have HZ := hide hz
  clear hz
  cases neg
  · go_enter Tryz.func59, Tryz.ntmps59
    go_wp2_with fail
    go_ret
    exact ⟨rfl, give_world (unhide HZ) _ _, ((Kept.refl z w).setCell 1 _).setCell 0 _⟩
  · go_enter Tryz.func59, Tryz.ntmps59
    go_wp2_with fail
    go_ret
    exact ⟨rfl, give_world (unhide HZ) _ _, ((Kept.refl z w).setCell 1 _).setCell 0 _⟩

/-- The whole number x lies at block b. -/
def Num (w : World) (b : Nat) (x : Int) : Prop :=
  ∃ (neg : Bool) (v : Value) (n : Nat) (f : Nat → Int), IntAt w b (.bool neg) v ∧ Sl w v n f ∧ Wd n f ∧ Nm n f ∧ x = sgnZ neg (val f n) ∧ (n = 0 → neg = false)

theorem Sl.other {z : Nat} {w w' : World} {v v0 : Value} {s0 : Bool} {n : Nat} {f : Nat → Int} (h : Sl w v n f) (k : Kept z w w') (hz : IntAt w z (.bool s0) v0) : Sl w' v n f := by
  rcases h with h | ⟨b, cap, hv, h1, h2, h3, h4⟩
  · exact Or.inl h
  · rcases Nat.eq_zero_or_pos n with h0 | h0
    · subst h0
      exact Or.inr ⟨b, cap, hv, h1, h2, Nat.lt_of_lt_of_le h3 k.size, fun i hi => absurd hi (by omega)⟩
    · have hb : b ≠ z := by
        intro e
        subst e
        have c := h4 0 h0
        rw [hz.cell0] at c
        cases c
      exact Or.inr ⟨b, cap, hv, h1, h2, Nat.lt_of_lt_of_le h3 k.size, h4.same (k.block b h3 hb)⟩
theorem Num.lt {w : World} {b : Nat} {x : Int} (h : Num w b x) : b < w.heap.size := by
  obtain ⟨neg, v, n, f, h, -⟩ := h; exact h.lt
theorem Num.other {z : Nat} {w w' : World} {v0 : Value} {s0 : Bool} {b : Nat} {x : Int} (h : Num w b x) (k : Kept z w w') (hb : b ≠ z) (hz : IntAt w z (.bool s0) v0) : Num w' b x := by
  obtain ⟨neg, v, n, f, h1, h2, h3, h4, h5, h6⟩ := h
  exact ⟨neg, v, n, f, h1.kept k hb, h2.other k hz, h3, h4, h5, h6⟩
theorem Num.below {w w' : World} {b : Nat} {x : Int} (h : Num w b x) (k : Below w.heap.size w w') : Num w' b x := by
  obtain ⟨neg, v, n, f, h1, h2, h3, h4, h5, h6⟩ := h
  exact ⟨neg, v, n, f, h1.below k, h2.below k, h3, h4, h5, h6⟩
theorem val_pos {f : Nat → Int} {n : Nat} (hw : Wd n f) (hn : Nm n f) (h : n ≠ 0) : 0 < val f n := by
  obtain ⟨m, rfl⟩ : ∃ m, n = m + 1 := ⟨n - 1, by omega⟩
  have := val_ge hw (by rcases hn with h | h; exact absurd h (by omega); exact h)
  have := pow_pos m
  omega
/-- What give makes of words. -/
theorem num_of_give {w : World} {z n : Nat} {v : Value} {f : Nat → Int} {neg : Bool} (h : IntAt w z (.bool (neg && decide (0 < n))) v) (hs : Sl w v n f) (hw : Wd n f) (hn : Nm n f) : Num w z (sgnZ neg (val f n)) := by
  refine ⟨_, v, n, f, h, hs, hw, hn, ?_, ?_⟩
  · rcases Nat.eq_zero_or_pos n with h0 | h0
    · subst h0; cases neg <;> rfl
    · rw [decide_eq_true h0]; simp
  · intro h0; subst h0; simp

set_option maxHeartbeats 400000 in
theorem setInt64_any (z : Nat) (x : Int) (hx : R64 x) (s0 : Bool) (v0 : Value) (w : World) (hz : IntAt w z (.bool s0) v0) :
    Calls Tryz.prog 77 #[.pointer (some ⟨z, 0, none⟩), .int .i64 x] w fun e w' =>
      e = .returned (.pointer (some ⟨z, 0, none⟩)) ∧ Num w' z x ∧ Kept z w w' := by
  have HZ := hide hz
  obtain ⟨a1, a2⟩ := hx
  clear hz
  by_cases h : x < 0
  · have e1 : Hid (IntKind.u64.wrap (-IntKind.u64.wrap x) = -x) := by show _ = _; rw [IntKind.wrap_u64, IntKind.wrap_u64]; omega
    go_enter Tryz.func77, Tryz.ntmps77
    go_wp2_with fail
    rw [unhide e1]
    refine (words_any (-x) (by omega) (by omega) _).mono ?_
    rintro e w1 ⟨v, m, f, rfl, hs, hw, hn, hv, hb⟩
    have H1 := hide hs; have H2 := hide hw; have H3 := hide hn; have H4 := hide hv; have H5 := hide hb
    rcases hs with ⟨rfl, rfl⟩ | ⟨b, cap, rfl, -, -, -, -⟩
    all_goals
      clear hw hn hv hb
      go_wp2_with fail
      refine (give_any z _ _ _ true _ _ _ ((unhide HZ).below (unhide H5))).mono ?_
      rintro e w2 ⟨rfl, hi, hk⟩
      have F := hide (show Num w2 z x ∧ Kept z w w2 from by
        have hsl := (unhide H1).other hk ((unhide HZ).below (unhide H5))
        have hnum := num_of_give hi hsl (unhide H2) (unhide H3)
        rw [unhide H4] at hnum
        have e2 : sgnZ true (-x) = x := by show - -x = x; omega
        rw [e2] at hnum
        exact ⟨hnum, (Kept.of_below (unhide H5)).trans hk (Or.inl rfl)⟩)
      clear hi hk
      go_wp2_with fail
      go_ret
      exact ⟨rfl, (unhide F).1, (unhide F).2⟩
  · go_enter Tryz.func77, Tryz.ntmps77
    go_wp2_with fail
    refine (words_any x (by omega) (by omega) _).mono ?_
    rintro e w1 ⟨v, m, f, rfl, hs, hw, hn, hv, hb⟩
    have H1 := hide hs; have H2 := hide hw; have H3 := hide hn; have H4 := hide hv; have H5 := hide hb
    rcases hs with ⟨rfl, rfl⟩ | ⟨b, cap, rfl, -, -, -, -⟩
    all_goals
      clear hw hn hv hb
      go_wp2_with fail
      refine (give_any z _ _ _ false _ _ _ ((unhide HZ).below (unhide H5))).mono ?_
      rintro e w2 ⟨rfl, hi, hk⟩
      have F := hide (show Num w2 z x ∧ Kept z w w2 from by
        have hsl := (unhide H1).other hk ((unhide HZ).below (unhide H5))
        have hnum := num_of_give hi hsl (unhide H2) (unhide H3)
        rw [unhide H4] at hnum
        exact ⟨hnum, (Kept.of_below (unhide H5)).trans hk (Or.inl rfl)⟩)
      clear hi hk
      go_wp2_with fail
      go_ret
      exact ⟨rfl, (unhide F).1, (unhide F).2⟩

/-- new(Int). -/
theorem intAt_new (w : World) : IntAt (w.alloc (.cells #[.bool false, .slice none 0 0] 109)) w.heap.size (.bool false) (.slice none 0 0) := by
  unfold IntAt
  show (w.heap.push _)[w.heap.size]? = _
  rw [Array.getElem?_push_size]
theorem below_new (w : World) (o : Obj) : Below w.heap.size w (w.alloc o) := (Below.refl _ _).alloc (Nat.le_refl _) _
/-- A block that was new, and then written. -/
theorem below_of_new {w w2 : World} {o : Obj} (k : Kept w.heap.size (w.alloc o) w2) : Below w.heap.size w w2 :=
  ((Kept.of_below (z := w.heap.size) (below_new w o)).trans k (Or.inl rfl)).below (Nat.le_refl _)

set_option maxHeartbeats 400000 in
theorem newInt_any (x : Int) (hx : R64 x) (w : World) :
    Calls Tryz.prog 58 #[.int .i64 x] w fun e w' =>
      ∃ b : Nat, e = .returned (.pointer (some ⟨b, 0, none⟩)) ∧ w.heap.size ≤ b ∧ Num w' b x ∧ Below w.heap.size w w' := by
  have HX := hide hx
  clear hx
  go_enter Tryz.func58, Tryz.ntmps58
  go_wp2_with fail
  refine (setInt64_any _ x (unhide HX) _ _ _ (intAt_new w)).mono ?_
  rintro e w2 ⟨rfl, hn, hk⟩
  have F := hide (show Num w2 w.heap.size x ∧ Below w.heap.size w w2 from ⟨hn, below_of_new hk⟩)
  clear hn hk
  go_wp2_with fail
  go_ret
  exact ⟨w.heap.size, rfl, Nat.le_refl _, (unhide F).1, (unhide F).2⟩

set_option maxHeartbeats 400000 in
theorem whole_any (x : Int) (hx : R64 x) (w : World) :
    Calls Tryz.prog 39 #[.int .i64 x] w fun e w' =>
      ∃ b : Nat, e = .returned (.pointer (some ⟨b, 0, none⟩)) ∧ w.heap.size ≤ b ∧ Num w' b x ∧ Below w.heap.size w w' := by
  have HX := hide hx
  obtain ⟨x1, x2⟩ := hx
  go_enter Tryz.func39, Tryz.ntmps39
  go_wp2_with fail
  refine (newInt_any x (unhide HX) _).mono ?_
  rintro e w2 ⟨b, rfl, hb, hn, hk⟩
  have F := hide (show w.heap.size ≤ b ∧ Num w2 b x ∧ Below w.heap.size w w2 from ⟨hb, hn, hk⟩)
  clear hb hn hk
  go_wp2_with fail
  go_ret
  exact ⟨b, rfl, (unhide F).1, (unhide F).2.1, (unhide F).2.2⟩

end Go.Proofs.YtngmeaaglogieaaGreat

namespace Go.Proofs.YtngmeaaglogieaaGreat
open Go.RowKit

theorem Tryz.infoU32 : (Tryz.prog.info? 116).map (fun i => (i.zero, i.size, i.bytes)) = some (some (.int .u32 0), 1, 4) := by kernel_rfl

/-- A block of N words, the call's own. -/
def Own (w : World) (b N : Nat) (g : Nat → Int) : Prop := w.rowIs b 116 N (fun j => .int .u32 (g j))
/-- One word laid anew. -/
def upd (g : Nat → Int) (k : Nat) (x : Int) : Nat → Int := fun j => if j = k then x else g j

theorem upd_same (g : Nat → Int) (k : Nat) (x : Int) : upd g k x k = x := if_pos rfl
theorem upd_other (g : Nat → Int) {k j : Nat} (x : Int) (h : j ≠ k) : upd g k x j = g j := if_neg h
theorem val_upd (g : Nat → Int) (k : Nat) (x : Int) : val (upd g k x) (k + 1) = val g k + x * 4294967296 ^ k := by
  show val (upd g k x) k + upd g k x k * 4294967296 ^ k = _
  rw [upd_same, val_congr (fun i hi => upd_other g x (by omega))]
theorem Wd.upd {g : Nat → Int} {k : Nat} {x : Int} (h : Wd k g) (h0 : 0 ≤ x) (h1 : x < 4294967296) : Wd (k + 1) (upd g k x) := by
  intro i hi
  rcases Nat.lt_or_ge i k with h2 | h2
  · rw [upd_other g x (by omega)]; exact h i h2
  · have : i = k := by omega
    subst this; rw [upd_same]; exact ⟨h0, h1⟩

theorem Own.set {w : World} {b N : Nat} {g : Nat → Int} (h : Own w b N g) (k : Nat) (x : Int) : Own (w.setCell ⟨b, k, none⟩ (.int .u32 x)) b N (upd g k x) := by
  have h2 := World.rowIs.set h k (.int .u32 x)
  have e : (fun j => if j = k then Value.int .u32 x else (fun j => Value.int .u32 (g j)) j) = fun j => Value.int .u32 (upd g k x j) := by
    funext j
    show (if j = k then Value.int .u32 x else Value.int .u32 (g j)) = Value.int .u32 (if j = k then x else g j)
    split <;> rfl
  rw [e] at h2
  exact h2

theorem Own.cell {w : World} {b N : Nat} {g : Nat → Int} (h : Own w b N g) {i : Nat} (hi : i < N) : w.cell? ⟨b, i, none⟩ = some (.int .u32 (g i)) := World.rowIs.cell h hi
theorem Own.free {w : World} {b N : Nat} {g : Nat → Int} (h : Own w b N g) (i : Nat) : w.frozen? ⟨b, i, none⟩ = false := World.rowIs.frozen h i
theorem Own.row {w : World} {b N : Nat} {g : Nat → Int} (h : Own w b N g) : Row w b N g := fun _ hi => h.cell hi
theorem Own.lt {w : World} {b N : Nat} {g : Nat → Int} (h : Own w b N g) : b < w.heap.size := World.rowIs.lt h
theorem own_made (w : World) (N : Nat) : Own (w.alloc (.cells (madeCells #[.int .u32 0] N) 116)) w.heap.size N (fun _ => 0) := World.rowIs_made w (.int .u32 0) N 116
theorem own_drew {w : World} {b N : Nat} {g : Nat → Int} (h : Own w b N g) (k : Nat) : Own (w.drewN k) b N g := h

/-- A slice's words where there are any. -/
def Has (w : World) (ao : Option Addr) (n : Nat) (f : Nat → Int) : Prop := 0 < n → ∃ b, ao = some ⟨b, 0, none⟩ ∧ b < w.heap.size ∧ Row w b n f
theorem Has.below {w w' : World} {ao : Option Addr} {n : Nat} {f : Nat → Int} (h : Has w ao n f) (k : Below w.heap.size w w') : Has w' ao n f := by
  intro hn
  obtain ⟨b, e, h1, h2⟩ := h hn
  exact ⟨b, e, Nat.lt_of_lt_of_le h1 k.size, h2.same (k.block b h1)⟩
theorem Has.below' {w w' : World} {ao : Option Addr} {n : Nat} {f : Nat → Int} (h : Has w ao n f) (k : Below w.heap.size w w') (hn : 0 < n) : ∃ b, ao = some ⟨b, 0, none⟩ ∧ b < w.heap.size ∧ Row w' b n f := by
  obtain ⟨b, e, h1, h2⟩ := h hn
  exact ⟨b, e, h1, h2.same (k.block b h1)⟩
theorem Sl.view {w : World} {v : Value} {n : Nat} {f : Nat → Int} (h : Sl w v n f) : ∃ ao cap, v = .slice ao n cap ∧ n ≤ cap ∧ cap ≤ 9223372036854775807 ∧ Has w ao n f := by
  rcases h with ⟨rfl, rfl⟩ | ⟨b, cap, rfl, h1, h2, h3, h4⟩
  · exact ⟨none, 0, rfl, Nat.le_refl _, by decide, fun h => absurd h (by omega)⟩
  · exact ⟨_, cap, rfl, h1, h2, fun _ => ⟨b, rfl, h3, h4⟩⟩

/-- Words with noughts above. -/
def padF (m : Nat) (f : Nat → Int) : Nat → Int := fun i => if i < m then f i else 0
theorem val_pad (f : Nat → Int) {m n : Nat} (h : m ≤ n) : val (padF m f) n = val f m := by
  have e1 : val (padF m f) n = val (padF m f) m := val_noughts h (fun i h1 _ => if_neg (show ¬ i < m by omega))
  have e2 : val (padF m f) m = val f m := val_congr (fun i hi => if_pos hi)
  rw [e1, e2]

/-- One word of a sum. -/
theorem add_step {fa fb g : Nat → Int} {k : Nat} {c t : Int} (h : val g k + c * 4294967296 ^ k = val fa k + val fb k) (ht : t = c + fa k + fb k) :
    val (upd g k (t % 4294967296)) (k + 1) + t / 4294967296 * 4294967296 ^ (k + 1) = val fa (k + 1) + val fb (k + 1) := by
  rw [val_upd]
  show _ = val fa k + fa k * 4294967296 ^ k + (val fb k + fb k * 4294967296 ^ k)
  have e : t * 4294967296 ^ k = c * 4294967296 ^ k + fa k * 4294967296 ^ k + fb k * 4294967296 ^ k := by rw [ht, Int.add_mul, Int.add_mul]
  have e2 : t % 4294967296 * 4294967296 ^ k + t / 4294967296 * 4294967296 ^ (k + 1) = t * 4294967296 ^ k := by
    rw [Int.pow_succ, Int.mul_comm (4294967296 ^ k) 4294967296, ← Int.mul_assoc, ← Int.add_mul]
    congr 1; omega
  omega

set_option maxHeartbeats 1000000 in
theorem add_core (ao bo : Option Addr) (n m capa capb : Nat) (fa fb : Nat → Int) (hmn : m ≤ n) (hn : n ≤ 549755813888) (w : World)
    (ha : Has w ao n fa) (hb : Has w bo m fb) (wa : Wd n fa) (wb : Wd m fb) :
    Calls Tryz.prog 78 #[.slice ao n capa, .slice bo m capb] w fun e w' =>
      ∃ (v : Value) (l : Nat) (f : Nat → Int), e = .returned v ∧ Sl w' v l f ∧ Wd l f ∧ Nm l f ∧ val f l = val fa n + val fb m ∧ l ≤ n + 1 ∧ Below w.heap.size w w' := by
  have hmk := fun wx => run_make_row' (P := Tryz.prog) 105 116 (.int .u32 0) 4 Tryz.underlying105 Tryz.infoU32 rfl .i64 .i64 (n + 1) (by omega) (by omega) wx
  rw [show ((n + 1 : Nat) : Int) = (n : Int) + 1 by omega] at hmk
  have HA := hide ha; have HB := hide hb; have WA := hide wa; have WB := hide wb
  clear ha hb wa wb
  go_enter Tryz.func78, Tryz.ntmps78
  go_wp2_with fail
  clear hmk
  go_loopw [6, 7] (fun cs is wr => ∃ (k : Nat) (c : Int) (g : Nat → Int), is = .int .i64 k ∧ cs = .int .u64 c ∧ k ≤ n ∧ 0 ≤ c ∧ c ≤ 1 ∧ Own wr w.heap.size (n + 1) g ∧ Wd k g ∧ val g k + c * 4294967296 ^ k = val fa k + val (padF m fb) k ∧ Below w.heap.size w wr)
    (fun _ is _ => n - (intOf is).toNat)
  case atStart => exact ⟨0, 0, _, rfl, rfl, Nat.zero_le _, Int.le_refl _, by decide, own_made w (n + 1), fun i hi => absurd hi (by omega), rfl, below_new w _⟩
  case round =>
    obtain ⟨k, c, g, rfl, rfl, hk, c0, c1, hO, hW, hv, hBl⟩ := hrel
    have HO := hide hO; have HW := hide hW; have HV := hide hv; have HBl := hide hBl
    clear hO hW hv hBl
    by_cases hkn : k < n
    · obtain ⟨ba, rfl, hba, hra⟩ := Has.below' (unhide HA) (unhide HBl) (by omega)
      have ca := hra k hkn
      have co := (unhide HO).cell (show k < n + 1 by omega)
      have fo := (unhide HO).free k
      obtain ⟨a0, a1⟩ := unhide WA k hkn
      clear hra
      by_cases hkm : k < m
      · obtain ⟨bb, rfl, hbb, hrb⟩ := Has.below' (unhide HB) (unhide HBl) (by omega)
        have cb := hrb k hkm
        obtain ⟨b0, b1⟩ := unhide WB k hkm
        have HS := hide (add_step (t := c + fa k + fb k) (unhide HV) (by show _ = c + fa k + (if k < m then fb k else 0); rw [if_pos hkm]))
        clear hrb
        go_wp2_with fail
        go_roundw
        case rel => exact ⟨k + 1, _, _, by go_num, rfl, by omega, by omega, by omega, (unhide HO).set k _, (unhide HW).upd (by omega) (by omega), unhide HS, (unhide HBl).setCell (Nat.le_refl _) _⟩
        case measure => simp [intOf]; omega
      · have HS := hide (add_step (t := c + fa k) (unhide HV) (by show _ = c + fa k + (if k < m then fb k else 0); rw [if_neg hkm]; omega))
        go_wp2_with fail
        go_roundw
        case rel => exact ⟨k + 1, _, _, by go_num, rfl, by omega, by omega, by omega, (unhide HO).set k _, (unhide HW).upd (by omega) (by omega), unhide HS, (unhide HBl).setCell (Nat.le_refl _) _⟩
        case measure => simp [intOf]; omega
    · have hkn2 : k = n := by omega
      subst hkn2
      have co := (unhide HO).cell (show k < k + 1 by omega)
      have fo := (unhide HO).free k
      have hr := ((unhide HO).set k c).row
      have hwd := (unhide HW).upd c0 (show c < 4294967296 by omega)
      have hval : val (upd g k c) (k + 1) = val fa k + val fb m := by rw [val_upd, unhide HV, val_pad fb hmn]
      have HR := hide hr; have HWD := hide hwd; have HVAL := hide hval
      have HOL := hide ((unhide HO).set k c).lt
      clear hr hwd hval
      go_wp2_with fail
      refine (trim_core w.heap.size (k + 1) (k + 1) (upd g k c) (Nat.le_refl _) (by omega) _ (unhide HR)).mono ?_
      rintro e w1 ⟨l, rfl, hl, hz, hnm, rfl⟩
      have F := hide (show Sl (wr.setCell ⟨w.heap.size, k, none⟩ (.int .u32 c)) (.slice (some ⟨w.heap.size, 0, none⟩) l (k + 1)) l (upd g k c) ∧ Wd l (upd g k c) ∧ Nm l (upd g k c) ∧ val (upd g k c) l = val fa k + val fb m ∧ l ≤ k + 1 ∧ Below w.heap.size w (wr.setCell ⟨w.heap.size, k, none⟩ (.int .u32 c)) from
        ⟨Or.inr ⟨_, _, rfl, hl, by omega, unhide HOL, (unhide HR).less hl⟩, (unhide HWD).less hl, hnm, by rw [← val_noughts hl hz]; exact unhide HVAL, hl, (unhide HBl).setCell (Nat.le_refl _) _⟩)
      clear hz hnm
      go_wp2_with fail
      go_ret
      exact ⟨_, l, _, rfl, unhide F⟩

set_option maxHeartbeats 1000000 in
theorem add_swap (ao bo : Option Addr) (n m capa capb : Nat) (fa fb : Nat → Int) (hmn : m < n) (hn : n ≤ 549755813888) (w : World)
    (ha : Has w ao n fa) (hb : Has w bo m fb) (wa : Wd n fa) (wb : Wd m fb) :
    Calls Tryz.prog 78 #[.slice bo m capb, .slice ao n capa] w fun e w' =>
      ∃ (v : Value) (l : Nat) (f : Nat → Int), e = .returned v ∧ Sl w' v l f ∧ Wd l f ∧ Nm l f ∧ val f l = val fa n + val fb m ∧ l ≤ n + 1 ∧ Below w.heap.size w w' := by
  have hmk := fun wx => run_make_row' (P := Tryz.prog) 105 116 (.int .u32 0) 4 Tryz.underlying105 Tryz.infoU32 rfl .i64 .i64 (n + 1) (by omega) (by omega) wx
  rw [show ((n + 1 : Nat) : Int) = (n : Int) + 1 by omega] at hmk
  have HA := hide ha; have HB := hide hb; have WA := hide wa; have WB := hide wb
  clear ha hb wa wb
  go_enter Tryz.func78, Tryz.ntmps78
  go_wp2_with fail
  clear hmk
  go_loopw [6, 7] (fun cs is wr => ∃ (k : Nat) (c : Int) (g : Nat → Int), is = .int .i64 k ∧ cs = .int .u64 c ∧ k ≤ n ∧ 0 ≤ c ∧ c ≤ 1 ∧ Own wr w.heap.size (n + 1) g ∧ Wd k g ∧ val g k + c * 4294967296 ^ k = val fa k + val (padF m fb) k ∧ Below w.heap.size w wr)
    (fun _ is _ => n - (intOf is).toNat)
  case atStart => exact ⟨0, 0, _, rfl, rfl, Nat.zero_le _, Int.le_refl _, by decide, own_made w (n + 1), fun i hi => absurd hi (by omega), rfl, below_new w _⟩
  case round =>
    obtain ⟨k, c, g, rfl, rfl, hk, c0, c1, hO, hW, hv, hBl⟩ := hrel
    have HO := hide hO; have HW := hide hW; have HV := hide hv; have HBl := hide hBl
    clear hO hW hv hBl
    by_cases hkn : k < n
    · obtain ⟨ba, rfl, hba, hra⟩ := Has.below' (unhide HA) (unhide HBl) (by omega)
      have ca := hra k hkn
      have co := (unhide HO).cell (show k < n + 1 by omega)
      have fo := (unhide HO).free k
      obtain ⟨a0, a1⟩ := unhide WA k hkn
      clear hra
      by_cases hkm : k < m
      · obtain ⟨bb, rfl, hbb, hrb⟩ := Has.below' (unhide HB) (unhide HBl) (by omega)
        have cb := hrb k hkm
        obtain ⟨b0, b1⟩ := unhide WB k hkm
        have HS := hide (add_step (t := c + fa k + fb k) (unhide HV) (by show _ = c + fa k + (if k < m then fb k else 0); rw [if_pos hkm]))
        clear hrb
        go_wp2_with fail
        go_roundw
        case rel => exact ⟨k + 1, _, _, by go_num, rfl, by omega, by omega, by omega, (unhide HO).set k _, (unhide HW).upd (by omega) (by omega), unhide HS, (unhide HBl).setCell (Nat.le_refl _) _⟩
        case measure => simp [intOf]; omega
      · have HS := hide (add_step (t := c + fa k) (unhide HV) (by show _ = c + fa k + (if k < m then fb k else 0); rw [if_neg hkm]; omega))
        go_wp2_with fail
        go_roundw
        case rel => exact ⟨k + 1, _, _, by go_num, rfl, by omega, by omega, by omega, (unhide HO).set k _, (unhide HW).upd (by omega) (by omega), unhide HS, (unhide HBl).setCell (Nat.le_refl _) _⟩
        case measure => simp [intOf]; omega
    · have hkn2 : k = n := by omega
      subst hkn2
      have co := (unhide HO).cell (show k < k + 1 by omega)
      have fo := (unhide HO).free k
      have hr := ((unhide HO).set k c).row
      have hwd := (unhide HW).upd c0 (show c < 4294967296 by omega)
      have hval : val (upd g k c) (k + 1) = val fa k + val fb m := by rw [val_upd, unhide HV, val_pad fb (Nat.le_of_lt hmn)]
      have HR := hide hr; have HWD := hide hwd; have HVAL := hide hval
      have HOL := hide ((unhide HO).set k c).lt
      clear hr hwd hval
      go_wp2_with fail
      refine (trim_core w.heap.size (k + 1) (k + 1) (upd g k c) (Nat.le_refl _) (by omega) _ (unhide HR)).mono ?_
      rintro e w1 ⟨l, rfl, hl, hz, hnm, rfl⟩
      have F := hide (show Sl (wr.setCell ⟨w.heap.size, k, none⟩ (.int .u32 c)) (.slice (some ⟨w.heap.size, 0, none⟩) l (k + 1)) l (upd g k c) ∧ Wd l (upd g k c) ∧ Nm l (upd g k c) ∧ val (upd g k c) l = val fa k + val fb m ∧ l ≤ k + 1 ∧ Below w.heap.size w (wr.setCell ⟨w.heap.size, k, none⟩ (.int .u32 c)) from
        ⟨Or.inr ⟨_, _, rfl, hl, by omega, unhide HOL, (unhide HR).less hl⟩, (unhide HWD).less hl, hnm, by rw [← val_noughts hl hz]; exact unhide HVAL, hl, (unhide HBl).setCell (Nat.le_refl _) _⟩)
      clear hz hnm
      go_wp2_with fail
      go_ret
      exact ⟨_, l, _, rfl, unhide F⟩

/-- The sum of two lists of words. -/
theorem add_words (va vb : Value) (n m : Nat) (fa fb : Nat → Int) (hn : n ≤ 549755813888) (hm : m ≤ 549755813888) (w : World) (ha : Sl w va n fa) (hb : Sl w vb m fb) (wa : Wd n fa) (wb : Wd m fb) :
    Calls Tryz.prog 78 #[va, vb] w fun e w' =>
      ∃ (v : Value) (l : Nat) (f : Nat → Int), e = .returned v ∧ Sl w' v l f ∧ Wd l f ∧ Nm l f ∧ val f l = val fa n + val fb m ∧ l ≤ max n m + 1 ∧ Below w.heap.size w w' := by
  obtain ⟨ao, capa, rfl, -, -, ha⟩ := ha.view
  obtain ⟨bo, capb, rfl, -, -, hb⟩ := hb.view
  rcases Nat.lt_or_ge n m with h | h
  · refine (add_swap bo ao m n capb capa fb fa h hm w hb ha wb wa).mono ?_
    rintro e w' ⟨v, l, f, h1, h2, h3, h4, h5, h6, h7⟩
    exact ⟨v, l, f, h1, h2, h3, h4, by rw [h5, Int.add_comm], by omega, h7⟩
  · refine (add_core ao bo n m capa capb fa fb h hn w ha hb wa wb).mono ?_
    rintro e w' ⟨v, l, f, h1, h2, h3, h4, h5, h6, h7⟩
    exact ⟨v, l, f, h1, h2, h3, h4, h5, by omega, h7⟩

end Go.Proofs.YtngmeaaglogieaaGreat
