/- Joined: LawsY1, AgrMaj. -/
import Derived.Test.YthimcecbgpamdaaGreatNear151
import Derived.Test.YthimcecbgpamdaaGreatNear149
namespace Go.Proofs.YthimcecbgpamdaaGreat
open Go.RowKit

theorem five_maj {m : Int} (h : IsMaj (fun _ => 5) 1 0 m) : m = 5 := maj_one h (Or.inl (by decide))
theorem sr_oneY (w : World) (x : Int) : Sr (w.alloc (.cells #[.int .i64 x] 3)) (some ⟨w.heap.size, 0, none⟩) 1 1 (iF (fun _ => x)) := by
  have V := Vh.new w 3 #[.int .i64 x] (iF (fun _ => x)) (by show 1 ≤ maxLen; decide) (fun i hi => by
    have : i = 0 := by simp at hi; omega
    subst this; rfl)
  exact Or.inr ⟨_, rfl, fun i hi => by rw [Addr.add_lit, Nat.zero_add]; exact V.cell hi⟩

/-- Three numbers one by one. -/
def l3F (a b c : Int) (i : Nat) : Int := if i = 0 then a else if i = 1 then b else c

end Go.Proofs.YthimcecbgpamdaaGreat

namespace Go.Proofs.YthimcecbgpamdaaGreat
open Go.RowKit

/-- What is left when each two that differ do away with one another. -/
def Lf (f : Nat → Int) (i : Nat) (l : Int) (m : Nat) : Prop := m ≤ i ∧ 2 * ce f i l ≤ i + m ∧ ∀ v, v ≠ l → 2 * ce f i v + m ≤ i
theorem lf_zero (f : Nat → Int) (l : Int) : Lf f 0 l 0 := ⟨Nat.le_refl _, Nat.le_refl _, fun _ _ => Nat.le_refl _⟩
theorem lf_new {f : Nat → Int} {i : Nat} {l : Int} (h : Lf f i l 0) : Lf f (i + 1) (f i) 1 := by
  obtain ⟨_, h2, h3⟩ := h
  have h4 : ∀ v, 2 * ce f i v ≤ i := fun v => by
    by_cases e : v = l
    · subst e; omega
    · have := h3 v e; omega
  refine ⟨by omega, ?_, fun v hv => ?_⟩
  · rw [ce_next, if_pos rfl]; have := h4 (f i); omega
  · rw [ce_next, if_neg (fun e => hv e.symm)]; have := h4 v; omega
theorem lf_more {f : Nat → Int} {i m : Nat} {l : Int} (e : f i = l) (h : Lf f i l m) : Lf f (i + 1) l (m + 1) := by
  obtain ⟨h1, h2, h3⟩ := h
  refine ⟨by omega, ?_, fun v hv => ?_⟩
  · rw [ce_next, if_pos e]; omega
  · rw [ce_next, if_neg (by omega)]; have := h3 v hv; omega
theorem lf_less {f : Nat → Int} {i m : Nat} {l : Int} (e : f i ≠ l) (h : Lf f i l (m + 1)) : Lf f (i + 1) l m := by
  obtain ⟨h1, h2, h3⟩ := h
  refine ⟨by omega, ?_, fun v hv => ?_⟩
  · rw [ce_next, if_neg e]; omega
  · rw [ce_next]; have := h3 v hv; split <;> omega

set_option maxHeartbeats 1000000 in
theorem agrStrongest_rd (ao : Option Addr) (n cap : Nat) (f : Nat → Int) (w : World) (hl : n ≤ 17592186043904) (hr : Rd w ao n (iF f)) :
    Calls Tryz.prog 173 #[.slice ao n cap] w fun e w' => ∃ l m, Lf f n l m ∧ e = .returned (.int .i64 l) ∧ w' = w := by
  have HR := hide hr
  clear hr
  go_enter Tryz.func173, Tryz.ntmps173
  go_wp2_with fail
  go_loopw [3, 4, 9] (fun ls ms is wr => w = wr ∧ ∃ (i m : Nat) (l : Int), ls = .int .i64 l ∧ ms = .int .i64 m ∧ is = .int .i64 i ∧ i ≤ n ∧ Lf f i l m) (fun _ _ is _ => n - (intOf is).toNat)
  case atStart => exact ⟨rfl, 0, 0, 0, rfl, rfl, rfl, Nat.zero_le _, lf_zero f 0⟩
  case round =>
    obtain ⟨rfl, i, m, l, rfl, rfl, rfl, hi, hlf⟩ := hrel
    have LF := hide hlf
    have hm : m ≤ i := hlf.1
    clear hlf
    by_cases hin : i < n
    · obtain ⟨b, o, rfl, hc⟩ := unhide HR (by omega)
      have ci : w.cell? ⟨b, o + i, none⟩ = some (.int .i64 (f i)) := hc i hin
      obtain ⟨v, ev⟩ : ∃ v, f i = v := ⟨_, rfl⟩
      rw [ev] at ci
      have EV := hide ev
      clear ev hc
      by_cases hm0 : m = 0
      · subst hm0
        have NX := hide (lf_new (unhide LF))
        rw [unhide EV] at NX
        rw [show ((0 : Nat) : Int) = 0 from rfl]
        go_wp2_with fail
        go_roundw
        case rel => exact ⟨trivial, i + 1, 1, v, rfl, rfl, by go_num, by omega, unhide NX⟩
        case measure => simp [intOf] <;> omega
      · have tm : (((m : Nat) : Int) == 0) = false := by simp; omega
        by_cases he : v = l
        · subst he
          have tv : (v == v) = true := by simp
          have NX := hide (lf_more (unhide EV) (unhide LF))
          go_wp2_with fail
          go_roundw
          case rel => exact ⟨trivial, i + 1, m + 1, v, rfl, by go_num, by go_num, by omega, unhide NX⟩
          case measure => simp [intOf] <;> omega
        · have tv : (v == l) = false := by simp [he]
          obtain ⟨k, rfl⟩ : ∃ k, m = k + 1 := ⟨m - 1, by omega⟩
          have NX := hide (lf_less (show f i ≠ l by rw [unhide EV]; exact he) (unhide LF))
          go_wp2_with fail
          go_roundw
          case rel => exact ⟨trivial, i + 1, k, l, rfl, by go_num, by go_num, by omega, unhide NX⟩
          case measure => simp [intOf] <;> omega
    · have e9 : i = n := by omega
      subst e9
      go_wp2_with fail
      go_ret
      exact ⟨l, m, unhide LF, rfl, rfl⟩

set_option maxHeartbeats 1000000 in
theorem agrCount_rd (ao : Option Addr) (n cap : Nat) (f : Nat → Int) (v : Int) (w : World) (hl : n ≤ 17592186043904) (hr : Rd w ao n (iF f)) :
    Calls Tryz.prog 174 #[.slice ao n cap, .int .i64 v] w fun e w' => e = .returned (.int .i64 (ce f n v : Nat)) ∧ w' = w := by
  have HR := hide hr
  clear hr
  go_enter Tryz.func174, Tryz.ntmps174
  go_wp2_with fail
  go_loopw [5, 10] (fun ns js wr => w = wr ∧ ∃ j : Nat, js = .int .i64 j ∧ j ≤ n ∧ ns = .int .i64 (ce f j v : Nat)) (fun _ js _ => n - (intOf js).toNat)
  case atStart => exact ⟨rfl, 0, rfl, Nat.zero_le _, rfl⟩
  case round =>
    obtain ⟨rfl, j, rfl, hj, rfl⟩ := hrel
    have b2 : ce f j v ≤ j := cn_le _ _
    by_cases hjn : j < n
    · obtain ⟨b, o, rfl, hc⟩ := unhide HR (by omega)
      have cj : w.cell? ⟨b, o + j, none⟩ = some (.int .i64 (f j)) := hc j hjn
      have S2 := hide (ce_next f j v)
      clear hc
      obtain ⟨q, eq⟩ : ∃ q, ce f j v = q := ⟨_, rfl⟩
      obtain ⟨u, eu⟩ : ∃ u, f j = u := ⟨_, rfl⟩
      rw [eq] at b2 S2 ⊢
      rw [eu] at cj S2
      clear eq eu
      by_cases he : u = v
      · subst he
        have t1 : (u == u) = true := by simp
        have T2 := hide (show ce f (j + 1) u = q + 1 by rw [unhide S2, if_pos rfl])
        go_wp2_with fail
        go_roundw
        case rel => exact ⟨trivial, j + 1, by go_num, by omega, by rw [unhide T2]; go_num⟩
        case measure => simp [intOf] <;> omega
      · have t1 : (u == v) = false := by simp [he]
        have T2 := hide (show ce f (j + 1) v = q by rw [unhide S2, if_neg he]; rfl)
        go_wp2_with fail
        go_roundw
        case rel => exact ⟨trivial, j + 1, by go_num, by omega, by rw [unhide T2]⟩
        case measure => simp [intOf] <;> omega
    · have e9 : j = n := by omega
      subst e9
      go_wp2_with fail
      go_ret
      exact ⟨rfl, rfl⟩

theorem agrMajority_rd (ao : Option Addr) (n cap : Nat) (f : Nat → Int) (other : Int) (w : World) (hl : n ≤ 17592186043904) (hr : Rd w ao n (iF f)) :
    Calls Tryz.prog 146 #[.slice ao n cap, .int .i64 other] w fun e w' => ∃ m, IsMaj f n other m ∧ e = .returned (.int .i64 m) ∧ w' = w := by
  have HR := hide hr
  clear hr
  go_enter Tryz.func146, Tryz.ntmps146
  go_wp2_with fail
  refine (agrStrongest_rd ao n cap f _ hl (unhide HR)).mono ?_
  rintro e w2 ⟨l, m, hlf, rfl, rfl⟩
  have LF := hide hlf
  clear hlf
  go_wp2_with fail
  refine (agrCount_rd ao n cap f l _ hl (unhide HR)).mono ?_
  rintro e w3 ⟨rfl, rfl⟩
  have b2 : ce f n l ≤ n := cn_le _ _
  obtain ⟨q, eq⟩ : ∃ q, ce f n l = q := ⟨_, rfl⟩
  have EQ := hide eq
  rw [eq] at b2 ⊢
  clear eq
  by_cases h2 : n < 2 * q
  · have h2' : (n : Int) < 2 * (q : Int) := by omega
    go_wp2_with fail
    go_ret
    exact ⟨l, Or.inl (by rw [unhide EQ]; exact h2), rfl, rfl⟩
  · have h2' : ¬ (n : Int) < 2 * (q : Int) := by omega
    go_wp2_with fail
    go_ret
    refine ⟨other, Or.inr ⟨fun v => ?_, rfl⟩, rfl, rfl⟩
    by_cases e : v = l
    · rw [e, unhide EQ]; exact h2
    · have := (unhide LF).2.2 v e; omega
theorem agreeMajority_ok : MjOK 146 := by
  intro ao n cap f other w _ _ hl _ hs
  refine (agrMajority_rd ao n cap f other w (by omega) hs.rd).mono ?_
  rintro e w' ⟨m, hm, rfl, rfl⟩
  exact ⟨m, hm, rfl, Below.refl _ _⟩

theorem agrDecide_any (a b c : Int) (w : World) :
    Calls Tryz.prog 121 #[.int .i64 a, .int .i64 b, .int .i64 c] w fun e w' => e = .returned (.int .i64 (dc3 a b c)) ∧ Below w.heap.size w w' := by
  have V2 := Vh.new w 3 #[.int .i64 a, .int .i64 b, .int .i64 c] (iF (l3F a b c)) (by show 3 ≤ maxLen; decide) (fun i hi => by
    have : i = 0 ∨ i = 1 ∨ i = 2 := by simp at hi; omega
    rcases this with rfl | rfl | rfl <;> rfl)
  have R2 := hide V2.rd
  have K2 := hide (al_below w (.cells #[.int .i64 a, .int .i64 b, .int .i64 c] 3))
  clear V2
  go_enter Tryz.func121, Tryz.ntmps121
  go_wp2_with fail
  refine (agrMajority_rd (some ⟨w.heap.size, 0, none⟩) 3 3 (l3F a b c) 0 _ (by omega) (unhide R2)).mono ?_
  rintro e w3 ⟨m, hm, rfl, rfl⟩
  have em : m = dc3 a b c := maj_one hm (dc3_maj (l3F a b c))
  subst em
  clear hm
  go_wp2_with fail
  go_ret
  exact ⟨rfl, unhide K2⟩
theorem agreeDecide_ok : DeOK 121 := fun a b c w _ _ _ => agrDecide_any a b c w

end Go.Proofs.YthimcecbgpamdaaGreat
