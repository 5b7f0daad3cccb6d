/- Contracts of package wire: open. -/
import Derived.Test.YtnbpkidjojgghaaWireOK
import Derived.Test.YtnbpkidjojgghaaNear3
namespace Go.Proofs.Ytnbpkidjojgghaa
open Go.RowKit

/-- What is wrong of bytes at first sight. -/
def opE (g : Nat → Nat) (len : Nat) (e : Int) : Prop :=
  (220 < len ∧ e = 1) ∨ (len ≤ 220 ∧ (len < 12 ∨ g 0 ≠ 87) ∧ e = 2) ∨ (len ≤ 220 ∧ 12 ≤ len ∧ g 0 = 87 ∧
    ((¬ opG g len ∧ e = 5) ∨ (opG g len ∧ ((24 < g 7 ∧ e = 6) ∨ (g 7 ≤ 24 ∧ ((len ≠ 12 + 8 * g 7 ∧ e = 2) ∨ (len = 12 + 8 * g 7 ∧ e = 0)))))))

set_option maxHeartbeats 1000000 in
theorem wopen_long (ao : Option Addr) (len cap : Nat) (w : World) (h1 : 220 < len) :
    Calls Try.prog 35 #[.slice ao len cap] w fun e w' => e = .returned (.tuple #[.slice none 0 0, .int .i64 1]) ∧ Below w.heap.size w w' := by
  have h1' : (220 : Int) < (len : Int) := by omega
  go_enter Try.func35, Try.ntmps35
  go_wp2_with fail
  go_ret2
  exact ⟨rfl, Below.refl _ _⟩

set_option maxHeartbeats 1000000 in
theorem wopen_short (ao : Option Addr) (len cap : Nat) (w : World) (h1 : len < 12) :
    Calls Try.prog 35 #[.slice ao len cap] w fun e w' => e = .returned (.tuple #[.slice none 0 0, .int .i64 2]) ∧ Below w.heap.size w w' := by
  have h1' : (len : Int) < 12 := by omega
  go_enter Try.func35, Try.ntmps35
  go_wp2_with fail
  go_ret2
  exact ⟨rfl, Below.refl _ _⟩

set_option maxHeartbeats 1000000 in
theorem wopen_form (ao : Option Addr) (len cap : Nat) (g : Nat → Nat) (w : World) (h1 : len ≤ 220) (h2 : 12 ≤ len) (hr : Rd w ao len (bF g)) (h3 : g 0 ≠ 87) :
    Calls Try.prog 35 #[.slice ao len cap] w fun e w' => e = .returned (.tuple #[.slice none 0 0, .int .i64 2]) ∧ Below w.heap.size w w' := by
  obtain ⟨b, o, rfl, hc⟩ := hr (by omega)
  have c0 : w.cell? ⟨b, o, none⟩ = some (.int .u8 (g 0 : Nat)) := hc 0 (by omega)
  have t3 : (((g 0 : Nat) : Int) != 87) = true := by simp; omega
  clear hc hr
  generalize g 0 = x at *
  go_enter Try.func35, Try.ntmps35
  go_wp2_with fail
  go_ret2
  exact ⟨rfl, Below.refl _ _⟩

set_option maxHeartbeats 1000000 in
theorem wopen_sum (ao : Option Addr) (len cap : Nat) (g : Nat → Nat) (w : World) (hg : ∀ i, g i < 256) (hcap : len ≤ cap) (h1 : len ≤ 220) (h2 : 12 ≤ len) (hr : Rd w ao len (bF g)) (h3 : g 0 = 87) (h4 : ¬ opG g len) :
    Calls Try.prog 35 #[.slice ao len cap] w fun e w' => e = .returned (.tuple #[.slice none 0 0, .int .i64 5]) ∧ Below w.heap.size w w' := by
  obtain ⟨b, o, rfl, hc⟩ := hr (by omega)
  have c0 : w.cell? ⟨b, o, none⟩ = some (.int .u8 87) := by have := hc 0 (by omega); rw [show bF g 0 = .int .u8 87 by unfold bF bV; rw [h3]; rfl] at this; exact this
  have HR := hide hr; have HG := hide hg
  clear hc hr hg
  go_enter Try.func35, Try.ntmps35
  go_wp2_with fail
  clear c0
  refine (open_any (some ⟨b, o, none⟩) len cap g _ (unhide HG) (by omega) hcap (unhide HR)).mono ?_
  rintro e w2 ⟨v2, ok, rfl, iff2, _, hv2, k2⟩
  have hok : ok = false := by cases ok; rfl; exact absurd (iff2.1 rfl) h4
  subst hok
  have K2 := hide k2
  clear k2 iff2 hv2
  go_wp2_with fail
  go_ret2
  exact ⟨rfl, unhide K2⟩

set_option maxHeartbeats 1000000 in
theorem wopen_full (ao : Option Addr) (len cap : Nat) (g : Nat → Nat) (w : World) (hg : ∀ i, g i < 256) (hcap : len ≤ cap) (h1 : len ≤ 220) (h2 : 12 ≤ len) (hr : Rd w ao len (bF g)) (h3 : g 0 = 87) (h4 : opG g len) (h5 : 24 < g 7) :
    Calls Try.prog 35 #[.slice ao len cap] w fun e w' => e = .returned (.tuple #[.slice none 0 0, .int .i64 6]) ∧ Below w.heap.size w w' := by
  obtain ⟨b, o, rfl, hc⟩ := hr (by omega)
  have c0 : w.cell? ⟨b, o, none⟩ = some (.int .u8 87) := by have := hc 0 (by omega); rw [show bF g 0 = .int .u8 87 by unfold bF bV; rw [h3]; rfl] at this; exact this
  have HR := hide hr; have HG := hide hg
  clear hc hr hg
  go_enter Try.func35, Try.ntmps35
  go_wp2_with fail
  clear c0
  refine (open_any (some ⟨b, o, none⟩) len cap g _ (unhide HG) (by omega) hcap (unhide HR)).mono ?_
  rintro e w2 ⟨v2, ok, rfl, iff2, ho2, _, k2⟩
  have hok : ok = true := iff2.2 h4
  subst hok
  have o2 := ho2 rfl
  obtain ⟨a2, l2, rfl⟩ := owns_slice o2
  obtain ⟨b2, p2, rfl, r2⟩ := owns_rd o2 (by omega)
  have c7 : w2.cell? ⟨b2, p2 + 7, none⟩ = some (.int .u8 (g 7 : Nat)) := r2 7 (by omega)
  have K2 := hide k2
  have hx7 : g 7 < 256 := unhide HG 7
  have h5' : (24 : Int) < ((g 7 : Nat) : Int) := by omega
  have hl7 : (7 : Int) < ((len - 4 : Nat) : Int) := by omega
  clear k2 iff2 ho2 o2 r2 HG HR h4 h3
  generalize g 7 = x at *
  generalize len - 4 = m at *
  go_wp2_with fail
  go_ret2
  exact ⟨rfl, unhide K2⟩

set_option maxHeartbeats 1000000 in
theorem wopen_count (ao : Option Addr) (len cap : Nat) (g : Nat → Nat) (w : World) (hg : ∀ i, g i < 256) (hcap : len ≤ cap) (h1 : len ≤ 220) (h2 : 12 ≤ len) (hr : Rd w ao len (bF g)) (h3 : g 0 = 87) (h4 : opG g len) (h5 : g 7 ≤ 24) :
    Calls Try.prog 35 #[.slice ao len cap] w fun e w' => ∃ v E, e = .returned (.tuple #[v, .int .i64 E]) ∧ ((len ≠ 12 + 8 * g 7 ∧ E = 2 ∧ v = .slice none 0 0) ∨ (len = 12 + 8 * g 7 ∧ E = 0 ∧ w'.ownsRow w.heap.size 5 1 v (len - 4) (rowV (bF g) (len - 4)))) ∧ Below w.heap.size w w' := by
  obtain ⟨b, o, rfl, hc⟩ := hr (by omega)
  have c0 : w.cell? ⟨b, o, none⟩ = some (.int .u8 87) := by have := hc 0 (by omega); rw [show bF g 0 = .int .u8 87 by unfold bF bV; rw [h3]; rfl] at this; exact this
  obtain ⟨x, ex⟩ : ∃ x, g 7 = x := ⟨_, rfl⟩
  obtain ⟨m, em⟩ : ∃ m, len - 4 = m := ⟨_, rfl⟩
  have hx7 : x < 256 := by rw [← ex]; exact hg 7
  have HR := hide hr; have HG := hide hg; have H4 := hide h4; have EX := hide ex; have EM := hide em
  rw [ex] at h5
  rw [ex, em]
  clear hc hr hg h4 ex em h3
  go_enter Try.func35, Try.ntmps35
  go_wp2_with fail
  clear c0
  refine (open_any (some ⟨b, o, none⟩) len cap g _ (unhide HG) (by omega) hcap (unhide HR)).mono ?_
  rintro e w2 ⟨v2, ok, rfl, iff2, ho2, _, k2⟩
  have hok : ok = true := iff2.2 (unhide H4)
  subst hok
  have o2 := ho2 rfl
  rw [unhide EM] at o2
  obtain ⟨a2, l2, rfl⟩ := owns_slice o2
  obtain ⟨b2, p2, rfl, r2⟩ := owns_rd o2 (by have := unhide EM; omega)
  have c7 : w2.cell? ⟨b2, p2 + 7, none⟩ = some (.int .u8 (g 7 : Nat)) := r2 7 (by have := unhide EM; omega)
  rw [unhide EX] at c7
  have K2 := hide k2; have O2 := hide o2
  have hl7 : (7 : Int) < (m : Int) := by have := unhide EM; omega
  clear k2 iff2 ho2 o2 r2 HG HR H4 EX
  go_wp2_with fail
  refine (sizeOf_any x _ (by omega)).mono ?_
  rintro e w3 ⟨rfl, rfl⟩
  by_cases h6 : m = 8 + 8 * x
  · have t6 : (((m : Nat) : Int) != ((8 + 8 * x : Nat) : Int)) = false := by rw [h6]; simp
    have T := hide (show len = 12 + 8 * x by have := unhide EM; omega)
    clear h6 c7
    generalize ((8 + 8 * x : Nat) : Int) = y at *
    go_wp2_with fail
    go_ret2
    exact ⟨_, _, rfl, Or.inr ⟨unhide T, rfl, unhide O2⟩, unhide K2⟩
  · have t6 : (((m : Nat) : Int) != ((8 + 8 * x : Nat) : Int)) = true := by simp; omega
    have T := hide (show len ≠ 12 + 8 * x by have := unhide EM; omega)
    clear h6 c7
    generalize ((8 + 8 * x : Nat) : Int) = y at *
    go_wp2_with fail
    go_ret2
    exact ⟨_, _, rfl, Or.inl ⟨unhide T, rfl, rfl⟩, unhide K2⟩

theorem wopen_any (ao : Option Addr) (len cap : Nat) (g : Nat → Nat) (w : World) (hg : ∀ i, g i < 256) (hcap : len ≤ cap) (hr : Rd w ao len (bF g)) :
    Calls Try.prog 35 #[.slice ao len cap] w fun e w' => ∃ v E, e = .returned (.tuple #[v, .int .i64 E]) ∧ opE g len E ∧ (E = 0 → w'.ownsRow w.heap.size 5 1 v (len - 4) (rowV (bF g) (len - 4))) ∧ Below w.heap.size w w' := by
  by_cases h1 : 220 < len
  · exact (wopen_long ao len cap w h1).mono (fun e w' ⟨h, k⟩ => ⟨_, _, h, Or.inl ⟨h1, rfl⟩, fun h => absurd h (by decide), k⟩)
  by_cases h2 : len < 12
  · exact (wopen_short ao len cap w h2).mono (fun e w' ⟨h, k⟩ => ⟨_, _, h, Or.inr (Or.inl ⟨by omega, Or.inl h2, rfl⟩), fun h => absurd h (by decide), k⟩)
  by_cases h3 : g 0 = 87
  · by_cases h4 : opG g len
    · by_cases h5 : 24 < g 7
      · exact (wopen_full ao len cap g w hg hcap (by omega) (by omega) hr h3 h4 h5).mono (fun e w' ⟨h, k⟩ => ⟨_, _, h, Or.inr (Or.inr ⟨by omega, by omega, h3, Or.inr ⟨h4, Or.inl ⟨h5, rfl⟩⟩⟩), fun h => absurd h (by decide), k⟩)
      · refine (wopen_count ao len cap g w hg hcap (by omega) (by omega) hr h3 h4 (by omega)).mono ?_
        rintro e w' ⟨v, E, rfl, ⟨h6, rfl, rfl⟩ | ⟨h6, rfl, ho⟩, k⟩
        · exact ⟨_, _, rfl, Or.inr (Or.inr ⟨by omega, by omega, h3, Or.inr ⟨h4, Or.inr ⟨by omega, Or.inl ⟨h6, rfl⟩⟩⟩⟩), fun h => absurd h (by decide), k⟩
        · exact ⟨_, _, rfl, Or.inr (Or.inr ⟨by omega, by omega, h3, Or.inr ⟨h4, Or.inr ⟨by omega, Or.inr ⟨h6, rfl⟩⟩⟩⟩), fun _ => ho, k⟩
    · exact (wopen_sum ao len cap g w hg hcap (by omega) (by omega) hr h3 h4).mono (fun e w' ⟨h, k⟩ => ⟨_, _, h, Or.inr (Or.inr ⟨by omega, by omega, h3, Or.inl ⟨h4, rfl⟩⟩), fun h => absurd h (by decide), k⟩)
  · exact (wopen_form ao len cap g w (by omega) (by omega) hr h3).mono (fun e w' ⟨h, k⟩ => ⟨_, _, h, Or.inr (Or.inl ⟨by omega, Or.inr h3, rfl⟩), fun h => absurd h (by decide), k⟩)

end Go.Proofs.Ytnbpkidjojgghaa
