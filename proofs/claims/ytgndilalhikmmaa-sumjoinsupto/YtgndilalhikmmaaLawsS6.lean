/- The walk of SumJoins, where both lists together are short enough to be joined. -/
import Derived.Test.YtgndilalhikmmaaSumBytes
import Derived.Test.YtgndilalhikmmaaSumPlain
import Derived.Test.YtgndilalhikmmaaOpenByte
namespace Go.Proofs.Ytgndilalhikmmaa
open Go.RowKit

theorem wpList_joinG (w : World) {ops : Array Oper} {rest : List Oper} {o : Oper} {a : Act} {Q : Exit → Act → World → Prop} (hw : Region.wanted o (yielded ops a.tmps) = true) (s x : Operand)
    (ho : o.op = .call { callee := .builtin .append, args := #[s, x], argTypes := #[22, 22] }) (B : Nat) (hB : B ≤ w.heap.size)
    (v : Value) (n : Nat) (xs : List Value) (hs : a.eval s = v) (hown : w.ownsRow B 5 1 v n xs)
    (vo : Option Addr) (lv cv : Nat) (f : Nat → Value) (hx : a.eval x = .slice vo lv cv) (har : Sr w vo lv cv f) (h1 : ∀ i, i < lv → (f i).oneCell' = true) (hl : n + lv ≤ 140737488355328)
    (h : ∀ v' w', w'.ownsRow B 5 1 v' (n + lv) (xs ++ rowV f lv) → Below B w w' → wpList Try.prog ops Q rest (a.put o.dst v') w') : wpList Try.prog ops Q (o :: rest) a w :=
  wpList_step fun K hK => by
    rw [if_pos hw]
    exact wp_join w s x ho B hB v n xs hs hown vo lv cv f hx har h1 hl fun v' w' h2 h3 => hK _ _ (h v' w' h2 h3)

/-- One behind the other. -/
def jnF (g f : Nat → Nat) (n i : Nat) : Nat := if i < n then g i else f (i - n)
theorem jnF_lt {g f : Nat → Nat} (hg : ∀ i, g i < 256) (hf : ∀ i, f i < 256) (n i : Nat) : jnF g f n i < 256 := by unfold jnF; split; exact hg _; exact hf _
theorem jnF_row (g f : Nat → Nat) (n m : Nat) : rowV (bF g) n ++ rowV (bF f) m = rowV (bF (jnF g f n)) (n + m) := by
  rw [rowV_append]
  exact rowV_congr (fun i _ => by unfold bF jnF; split <;> rfl)
theorem more_join {g f : Nat → Nat} (hg : ∀ i, g i < 256) (n m : Nat) : moreN ((moreN 0 g n : Nat) : Int) f m = moreN 0 (jnF g f n) (n + m) := by
  have hc := cF_lt (begS_lt 0) hg n
  have e : begS ((moreN 0 g n : Nat) : Int) = cF (begS 0) g n := by
    unfold moreN
    generalize cF (begS 0) g n = R at hc ⊢
    unfold begS; omega
  unfold moreN at e ⊢
  rw [e, cF_add, cF_congr (begS 0) n (fun i hi => show jnF g f n i = g i by unfold jnF; rw [if_pos hi])]
  rw [cF_congr (cF (begS 0) g n) m (fun i _ => show (fun i => jnF g f n (n + i)) i = f i by show jnF g f n (n + i) = f i; unfold jnF; rw [if_neg (by omega), Nat.add_sub_cancel_left])]

set_option maxHeartbeats 1000000 in
theorem sumJoins_walk {w : World} (ao : Option Addr) (len cap : Nat) (g : Nat → Nat) (bo : Option Addr) (len2 cap2 : Nat) (f : Nat → Nat) (ha : ArgB w ao len cap g) (hb : ArgB w bo len2 cap2 f) (hsum : len + len2 ≤ 140737488355328) :
    Calls Try.prog 7 #[.slice ao len cap, .slice bo len2 cap2] w fun e w' => e = .returned (.bool true) ∧ Below w.heap.size w w' := by
  obtain ⟨hr, hl, hg, hc⟩ := ha
  obtain ⟨hr2, hl2, hg2, hc2⟩ := hb
  have HR := hide hr; have HG := hide hg; have HR2 := hide hr2; have HG2 := hide hg2
  clear hr hg hr2 hg2 hc hc2
  go_enter Try.func7, Try.ntmps7
  go_wp2_with fail
  refine (sums_any w).mono ?_
  rintro e w1 ⟨rfl, k1⟩
  have K1 := hide k1
  clear k1
  go_wp2_with fail
  refine (bytesK_any ao len cap (bF g) _ (by omega) (bF_one g) ((unhide HR).below (unhide K1))).mono ?_
  rintro e w2 ⟨v, rfl, o2, k2⟩
  obtain ⟨a2, c2, rfl, r2, n2⟩ := owns_sr o2
  have R2 := hide r2; have K2 := hide ((unhide K1).trans (k2.mono (unhide K1).size))
  clear o2 r2 n2 k2 K1
  go_wp2_with fail
  refine (sum_any a2 len c2 g _ (unhide HG) (by omega) (unhide R2).rd).mono ?_
  rintro e w3 ⟨rfl, k3⟩
  have K3 := hide ((unhide K2).trans (k3.mono (unhide K2).size))
  clear k3 K2 R2
  go_wp2_with fail
  refine (bytesK_any bo len2 cap2 (bF f) _ (by omega) (bF_one f) ((unhide HR2).below (unhide K3))).mono ?_
  rintro e w4 ⟨v, rfl, o4, k4⟩
  obtain ⟨a4, c4, rfl, r4, n4⟩ := owns_sr o4
  have R4 := hide r4; have K4 := hide ((unhide K3).trans (k4.mono (unhide K3).size))
  clear o4 r4 n4 k4 K3
  go_wp2_with fail
  refine (more_any _ a4 len2 c4 f _ (unhide HG2) (by omega) (unhide R4).rd).mono ?_
  rintro e w5 ⟨rfl, k5⟩
  rw [more_join (unhide HG)]
  have K5 := hide ((unhide K4).trans (k5.mono (unhide K4).size))
  clear k5 K4 R4
  go_wp2_with fail
  refine (bytesK_any ao len cap (bF g) _ (by omega) (bF_one g) ((unhide HR).below (unhide K5))).mono ?_
  rintro e w6 ⟨v6, rfl, o6, k6⟩
  have b6 := (unhide K5).trans (k6.mono (unhide K5).size)
  have O6 := hide o6; have K6 := hide b6; have Z5 := hide k6.size; have S6 := hide ((unhide HR2).below b6)
  have ZW := hide (unhide K5).size
  clear o6 k6 b6 K5
  go_wp2_with (at_builtin; refine wpList_joinG _ (by rfl) _ _ rfl w5.heap.size (unhide Z5) v6 len (rowV (bF g) len) rfl (unhide O6) bo len2 cap2 (bF f) rfl (unhide S6) (fun i _ => bF_one f i) (by omega) ?_)
  intro v7 w7 h7 k7
  rw [jnF_row] at h7
  obtain ⟨a7, c7, rfl, r7, n7⟩ := owns_sr h7
  have R7 := hide r7; have K7 := hide ((unhide K6).trans (k7.mono (unhide ZW)))
  clear h7 k7 r7 n7 K6
  go_wp2_with fail
  refine (sum_any a7 (len + len2) c7 (jnF g f len) _ (jnF_lt (unhide HG) (unhide HG2) len) (by omega) (unhide R7).rd).mono ?_
  rintro e w8 ⟨rfl, k8⟩
  have K8 := hide ((unhide K7).trans (k8.mono (unhide K7).size))
  clear k8 K7
  go_wp2_with fail
  go_ret
  exact ⟨rfl, unhide K8⟩

end Go.Proofs.Ytgndilalhikmmaa
