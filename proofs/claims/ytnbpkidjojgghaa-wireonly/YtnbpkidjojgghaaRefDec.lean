/- Contracts of the reference: Decode. -/
import Derived.Test.YtnbpkidjojgghaaRefEnc
namespace Go.Proofs.Ytnbpkidjojgghaa
open Go.RowKit

/-- Two messages' variables, both nought. -/
theorem mg_two (w : World) : ∃ w1, w1 = (w.alloc (.cells #[.int .i64 0, .int .i64 0, .int .i64 0, .slice none 0 0] 24)).alloc (.cells #[.int .i64 0, .int .i64 0, .int .i64 0, .slice none 0 0] 24) ∧
    MgAt w1 w.heap.size 0 0 0 (.slice none 0 0) ∧ MgAt w1 (w.heap.size + 1) 0 0 0 (.slice none 0 0) ∧ Below w.heap.size w w1 ∧ w1.heap.size = w.heap.size + 1 + 1 := by
  refine ⟨_, rfl, (MgAt.new w 0 0 0 _).below (al_below _ _), ?_, ?_, ?_⟩
  · have h := MgAt.new (w.alloc (.cells #[.int .i64 0, .int .i64 0, .int .i64 0, .slice none 0 0] 24)) 0 0 0 (.slice none 0 0)
    rw [al_size] at h
    exact h
  · exact ((Below.refl _ _).alloc (Nat.le_refl _) _).alloc (by rw [al_size]; omega) _
  · rw [al_size, al_size]

set_option maxHeartbeats 1000000 in
theorem refDecode_long (ao : Option Addr) (len cap : Nat) (w : World) (h1 : 220 < len) :
    Calls Try.prog 14 #[.slice ao len cap] w fun e w' => e = .returned (.tuple #[msV 0 0 0 (.slice none 0 0), .int .i64 1]) ∧ Below w.heap.size w w' := by
  obtain ⟨w1, e1, _, _, k1, _⟩ := mg_two w
  have E1 := hide e1; have K1 := hide k1
  clear e1 k1
  have h1' : (220 : Int) < (len : Int) := by omega
  go_enter Try.func14, Try.ntmps14
  go_wp2_with fail
  refine bodyPost_ret (v := .tuple #[msV 0 0 0 (.slice none 0 0), .int .i64 1]) (by simp [results, Try.results14, go_sem, msV]) rfl ⟨rfl, ?_⟩
  rw [← unhide E1]
  exact unhide K1

set_option maxHeartbeats 1000000 in
theorem refDecode_short (ao : Option Addr) (len cap : Nat) (w : World) (h1 : len < 12) :
    Calls Try.prog 14 #[.slice ao len cap] w fun e w' => e = .returned (.tuple #[msV 0 0 0 (.slice none 0 0), .int .i64 2]) ∧ Below w.heap.size w w' := by
  obtain ⟨w1, e1, _, _, k1, _⟩ := mg_two w
  have E1 := hide e1; have K1 := hide k1
  clear e1 k1
  go_enter Try.func14, Try.ntmps14
  go_wp2_with fail
  refine bodyPost_ret (v := .tuple #[msV 0 0 0 (.slice none 0 0), .int .i64 2]) (by simp [results, Try.results14, go_sem, msV]) rfl ⟨rfl, ?_⟩
  rw [← unhide E1]
  exact unhide K1

set_option maxHeartbeats 1000000 in
theorem refDecode_form (ao : Option Addr) (len cap : Nat) (g : Nat → Nat) (w : World) (h1 : len ≤ 220) (h2 : 12 ≤ len) (hr : Rd w ao len (bF g)) (h3 : g 0 ≠ 87) :
    Calls Try.prog 14 #[.slice ao len cap] w fun e w' => e = .returned (.tuple #[msV 0 0 0 (.slice none 0 0), .int .i64 2]) ∧ Below w.heap.size w w' := by
  obtain ⟨b, o, rfl, hc⟩ := hr (by omega)
  obtain ⟨w1, e1, _, _, k1, _⟩ := mg_two w
  have c0 : w1.cell? ⟨b, o, none⟩ = some (.int .u8 (g 0 : Nat)) := at_below (hc 0 (by omega)) k1
  rw [e1] at c0
  have hb : b < w.heap.size := World.block_lt_of_cell? w ⟨b, o + 0, none⟩ (hc 0 (by omega))
  have t3 : (((g 0 : Nat) : Int) != 87) = true := by simp; omega
  have E1 := hide e1; have K1 := hide k1
  clear e1 k1 hc hr
  generalize g 0 = x at *
  go_enter Try.func14, Try.ntmps14
  go_wp2_with fail
  refine bodyPost_ret (v := .tuple #[msV 0 0 0 (.slice none 0 0), .int .i64 2]) (by simp [results, Try.results14, go_sem, msV]) rfl ⟨rfl, ?_⟩
  rw [← unhide E1]
  exact unhide K1

/-- Up to here: what is refused at first sight. -/
theorem dec_sight : True := trivial

set_option maxHeartbeats 1000000 in
theorem refDecode_sum (ao : Option Addr) (len cap : Nat) (g : Nat → Nat) (w : World) (hg : ∀ i, g i < 256) (hcap : len ≤ cap) (h1 : len ≤ 220) (h2 : 12 ≤ len) (hr : Rd w ao len (bF g)) (h3 : g 0 = 87) (h4 : ¬ opG g len) :
    Calls Try.prog 14 #[.slice ao len cap] w fun e w' => e = .returned (.tuple #[msV 0 0 0 (.slice none 0 0), .int .i64 5]) ∧ Below w.heap.size w w' := by
  obtain ⟨b, o, rfl, hc⟩ := hr (by omega)
  obtain ⟨w1, e1, mA, mB, k1, s1⟩ := mg_two w
  have c0 : w1.cell? ⟨b, o, none⟩ = some (.int .u8 87) := by have := at_below (hc 0 (by omega)) k1; rw [show bF g 0 = .int .u8 87 by unfold bF bV; rw [h3]; rfl] at this; exact this
  rw [e1] at c0
  have hb : b < w.heap.size := World.block_lt_of_cell? w ⟨b, o + 0, none⟩ (hc 0 (by omega))
  have E1 := hide e1; have MA := hide mA; have MB := hide mB; have K1 := hide k1; have S1 := hide s1; have HC := hide hc; have HR := hide hr; have HG := hide hg
  clear e1 mA mB k1 s1 hc hr hg
  go_enter Try.func14, Try.ntmps14
  go_wp2_with fail
  rw [← unhide E1]
  clear c0
  refine (refOpen_any (some ⟨b, o, none⟩) len cap g _ (unhide HG) (by omega) hcap ((unhide HR).below (unhide K1))).mono ?_
  rintro e w2 ⟨v2, ok, rfl, iff2, _, _, k2⟩
  have mA := (unhide MA).below k2; have mB := (unhide MB).below k2
  have K2 := hide (show Below w.heap.size w w2 from (unhide K1).trans (k2.mono (unhide K1).size)); have S2 := hide (show w.heap.size + 1 + 1 ≤ w2.heap.size by have := unhide S1; have := k2.size; omega)
  have hok : ok = false := by cases ok; rfl; exact absurd (iff2.1 rfl) h4
  subst hok
  clear k2 iff2 MA MB K1 S1
  have b0 := mB.cell0; have b1 := mB.cell1; have b2 := mB.cell2; have b3 := mB.cell3
  have a0 := mA.cell0; have a1 := mA.cell1; have a2 := mA.cell2; have a3 := mA.cell3
  have f0 := mA.free 0; have f1 := mA.free 1; have f2 := mA.free 2; have f3 := mA.free 3
  have MA := hide mA
  clear mA mB
  go_wp2_with fail
  obtain ⟨w3, e3, m3, k3⟩ := (unhide MA).put 0 0 0 (.slice none 0 0)
  rw [← e3]
  have p0 := m3.cell0; have p1 := m3.cell1; have p2 := m3.cell2; have p3 := m3.cell3
  have F3 := hide (below_of_kept (unhide K2) k3 (Nat.le_refl _) (unhide K2).size)
  clear e3 m3 k3 b0 b1 b2 b3 a0 a1 a2 a3 f0 f1 f2 f3
  refine bodyPost_ret (v := .tuple #[msV 0 0 0 (.slice none 0 0), .int .i64 5]) (by simp [results, Try.results14, go_sem, msV, p0, p1, p2, p3]) rfl ⟨rfl, unhide F3⟩

set_option maxHeartbeats 1000000 in
theorem refDecode_full (ao : Option Addr) (len cap : Nat) (g : Nat → Nat) (w : World) (hg : ∀ i, g i < 256) (hcap : len ≤ cap) (h1 : len ≤ 220) (h2 : 12 ≤ len) (hr : Rd w ao len (bF g)) (h3 : g 0 = 87) (h4 : opG g len) (h5 : 24 < g 7) :
    Calls Try.prog 14 #[.slice ao len cap] w fun e w' => e = .returned (.tuple #[msV 0 0 0 (.slice none 0 0), .int .i64 6]) ∧ Below w.heap.size w w' := by
  obtain ⟨b, o, rfl, hc⟩ := hr (by omega)
  obtain ⟨w1, e1, mA, mB, k1, s1⟩ := mg_two w
  have c0 : w1.cell? ⟨b, o, none⟩ = some (.int .u8 87) := by have := at_below (hc 0 (by omega)) k1; rw [show bF g 0 = .int .u8 87 by unfold bF bV; rw [h3]; rfl] at this; exact this
  rw [e1] at c0
  have hb : b < w.heap.size := World.block_lt_of_cell? w ⟨b, o + 0, none⟩ (hc 0 (by omega))
  have E1 := hide e1; have MA := hide mA; have MB := hide mB; have K1 := hide k1; have S1 := hide s1; have HC := hide hc; have HR := hide hr; have HG := hide hg
  clear e1 mA mB k1 s1 hc hr hg
  go_enter Try.func14, Try.ntmps14
  go_wp2_with fail
  rw [← unhide E1]
  clear c0
  refine (refOpen_any (some ⟨b, o, none⟩) len cap g _ (unhide HG) (by omega) hcap ((unhide HR).below (unhide K1))).mono ?_
  rintro e w2 ⟨v2, ok, rfl, iff2, _, _, k2⟩
  have mA := (unhide MA).below k2; have mB := (unhide MB).below k2
  have K2 := hide (show Below w.heap.size w w2 from (unhide K1).trans (k2.mono (unhide K1).size)); have S2 := hide (show w.heap.size + 1 + 1 ≤ w2.heap.size by have := unhide S1; have := k2.size; omega)
  have hok : ok = true := iff2.2 h4
  subst hok
  clear k2 iff2 MA MB K1 S1
  have c7 : w2.cell? ⟨b, o + 7, none⟩ = some (.int .u8 (g 7 : Nat)) := at_below (unhide HC 7 (by omega)) (unhide K2)
  have hx7 : g 7 < 256 := unhide HG 7
  have h5' : (24 : Int) < ((g 7 : Nat) : Int) := by omega
  clear HC HG HR
  generalize g 7 = x at *
  have b0 := mB.cell0; have b1 := mB.cell1; have b2 := mB.cell2; have b3 := mB.cell3
  have a0 := mA.cell0; have a1 := mA.cell1; have a2 := mA.cell2; have a3 := mA.cell3
  have f0 := mA.free 0; have f1 := mA.free 1; have f2 := mA.free 2; have f3 := mA.free 3
  have MA := hide mA
  clear mA mB
  go_wp2_with fail
  obtain ⟨w3, e3, m3, k3⟩ := (unhide MA).put 0 0 0 (.slice none 0 0)
  rw [← e3]
  have p0 := m3.cell0; have p1 := m3.cell1; have p2 := m3.cell2; have p3 := m3.cell3
  have F3 := hide (below_of_kept (unhide K2) k3 (Nat.le_refl _) (unhide K2).size)
  clear e3 m3 k3 b0 b1 b2 b3 a0 a1 a2 a3 f0 f1 f2 f3
  refine bodyPost_ret (v := .tuple #[msV 0 0 0 (.slice none 0 0), .int .i64 6]) (by simp [results, Try.results14, go_sem, msV, p0, p1, p2, p3]) rfl ⟨rfl, unhide F3⟩

set_option maxHeartbeats 1000000 in
theorem refDecode_count (ao : Option Addr) (len cap : Nat) (g : Nat → Nat) (w : World) (hg : ∀ i, g i < 256) (hcap : len ≤ cap) (h1 : len ≤ 220) (h2 : 12 ≤ len) (hr : Rd w ao len (bF g)) (h3 : g 0 = 87) (h4 : opG g len) (h5 : g 7 ≤ 24) (h6 : len ≠ 12 + 8 * g 7) :
    Calls Try.prog 14 #[.slice ao len cap] w fun e w' => e = .returned (.tuple #[msV 0 0 0 (.slice none 0 0), .int .i64 2]) ∧ Below w.heap.size w w' := by
  obtain ⟨b, o, rfl, hc⟩ := hr (by omega)
  obtain ⟨w1, e1, mA, mB, k1, s1⟩ := mg_two w
  have c0 : w1.cell? ⟨b, o, none⟩ = some (.int .u8 87) := by have := at_below (hc 0 (by omega)) k1; rw [show bF g 0 = .int .u8 87 by unfold bF bV; rw [h3]; rfl] at this; exact this
  rw [e1] at c0
  have hb : b < w.heap.size := World.block_lt_of_cell? w ⟨b, o + 0, none⟩ (hc 0 (by omega))
  have E1 := hide e1; have MA := hide mA; have MB := hide mB; have K1 := hide k1; have S1 := hide s1; have HC := hide hc; have HR := hide hr; have HG := hide hg
  clear e1 mA mB k1 s1 hc hr hg
  go_enter Try.func14, Try.ntmps14
  go_wp2_with fail
  rw [← unhide E1]
  clear c0
  refine (refOpen_any (some ⟨b, o, none⟩) len cap g _ (unhide HG) (by omega) hcap ((unhide HR).below (unhide K1))).mono ?_
  rintro e w2 ⟨v2, ok, rfl, iff2, _, _, k2⟩
  have mA := (unhide MA).below k2; have mB := (unhide MB).below k2
  have K2 := hide (show Below w.heap.size w w2 from (unhide K1).trans (k2.mono (unhide K1).size)); have S2 := hide (show w.heap.size + 1 + 1 ≤ w2.heap.size by have := unhide S1; have := k2.size; omega)
  have hok : ok = true := iff2.2 h4
  subst hok
  clear k2 iff2 MA MB K1 S1
  have c7 : w2.cell? ⟨b, o + 7, none⟩ = some (.int .u8 (g 7 : Nat)) := at_below (unhide HC 7 (by omega)) (unhide K2)
  have hx7 : g 7 < 256 := unhide HG 7
  clear HC HG HR h3 h4
  generalize g 7 = x at *
  have t6 : (((len : Nat) : Int) != 12 + 8 * (x : Int)) = true := by simp; omega
  have b0 := mB.cell0; have b1 := mB.cell1; have b2 := mB.cell2; have b3 := mB.cell3
  have a0 := mA.cell0; have a1 := mA.cell1; have a2 := mA.cell2; have a3 := mA.cell3
  have f0 := mA.free 0; have f1 := mA.free 1; have f2 := mA.free 2; have f3 := mA.free 3
  have MA := hide mA
  clear mA mB
  go_wp2_with fail
  obtain ⟨w3, e3, m3, k3⟩ := (unhide MA).put 0 0 0 (.slice none 0 0)
  rw [← e3]
  have p0 := m3.cell0; have p1 := m3.cell1; have p2 := m3.cell2; have p3 := m3.cell3
  have F3 := hide (below_of_kept (unhide K2) k3 (Nat.le_refl _) (unhide K2).size)
  clear e3 m3 k3 b0 b1 b2 b3 a0 a1 a2 a3 f0 f1 f2 f3
  refine bodyPost_ret (v := .tuple #[msV 0 0 0 (.slice none 0 0), .int .i64 2]) (by simp [results, Try.results14, go_sem, msV, p0, p1, p2, p3]) rfl ⟨rfl, unhide F3⟩

end Go.Proofs.Ytnbpkidjojgghaa
