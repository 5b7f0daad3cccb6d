/- Joined: RefDec, MsgOps, RefDec2. -/
import Derived.Test.YthimcecbgpamdaaGreatNear88
import Derived.Test.YthimcecbgpamdaaGreatNear167
import Derived.Test.YthimcecbgpamdaaGreatNear91
namespace Go.Proofs.YthimcecbgpamdaaGreat
open Go.RowKit

/-- Two messages' variables, both nought. -/
theorem mg_two (w : World) : ∃ w1, w1 = (w.alloc (.cells #[.int .i64 0, .int .i64 0, .int .i64 0, .slice none 0 0] 67)).alloc (.cells #[.int .i64 0, .int .i64 0, .int .i64 0, .slice none 0 0] 67) ∧
    MgAt w1 w.heap.size 0 0 0 (.slice none 0 0) ∧ MgAt w1 (w.heap.size + 1) 0 0 0 (.slice none 0 0) ∧ Below w.heap.size w w1 ∧ w1.heap.size = w.heap.size + 1 + 1 := by
  refine ⟨_, rfl, (MgAt.new w 0 0 0 _).below (al_below _ _), ?_, ?_, ?_⟩
  · have h := MgAt.new (w.alloc (.cells #[.int .i64 0, .int .i64 0, .int .i64 0, .slice none 0 0] 67)) 0 0 0 (.slice none 0 0)
    rw [al_size] at h
    exact h
  · exact ((Below.refl _ _).alloc (Nat.le_refl _) _).alloc (by rw [al_size]; omega) _
  · rw [al_size, al_size]

set_option maxHeartbeats 1000000 in
theorem refDecode_long (ao : Option Addr) (len cap : Nat) (w : World) (h1 : 220 < len) :
    Calls Tryz.prog 42 #[.slice ao len cap] w fun e w' => e = .returned (.tuple #[msV 0 0 0 (.slice none 0 0), .int .i64 1]) ∧ Below w.heap.size w w' := by
  obtain ⟨w1, e1, _, _, k1, _⟩ := mg_two w
  have E1 := hide e1; have K1 := hide k1
  clear e1 k1
  have h1' : (220 : Int) < (len : Int) := by omega
  go_enter Tryz.func42, Tryz.ntmps42
  go_wp2_with fail
  refine bodyPost_ret (v := .tuple #[msV 0 0 0 (.slice none 0 0), .int .i64 1]) (by simp [results, Tryz.results42, go_sem, msV]) rfl ⟨rfl, ?_⟩
  rw [← unhide E1]
  exact unhide K1

set_option maxHeartbeats 1000000 in
theorem refDecode_short (ao : Option Addr) (len cap : Nat) (w : World) (h1 : len < 12) :
    Calls Tryz.prog 42 #[.slice ao len cap] w fun e w' => e = .returned (.tuple #[msV 0 0 0 (.slice none 0 0), .int .i64 2]) ∧ Below w.heap.size w w' := by
  obtain ⟨w1, e1, _, _, k1, _⟩ := mg_two w
  have E1 := hide e1; have K1 := hide k1
  clear e1 k1
  go_enter Tryz.func42, Tryz.ntmps42
  go_wp2_with fail
  refine bodyPost_ret (v := .tuple #[msV 0 0 0 (.slice none 0 0), .int .i64 2]) (by simp [results, Tryz.results42, go_sem, msV]) rfl ⟨rfl, ?_⟩
  rw [← unhide E1]
  exact unhide K1

set_option maxHeartbeats 1000000 in
theorem refDecode_form (ao : Option Addr) (len cap : Nat) (g : Nat → Nat) (w : World) (h1 : len ≤ 220) (h2 : 12 ≤ len) (hr : Rd w ao len (bF g)) (h3 : g 0 ≠ 87) :
    Calls Tryz.prog 42 #[.slice ao len cap] w fun e w' => e = .returned (.tuple #[msV 0 0 0 (.slice none 0 0), .int .i64 2]) ∧ Below w.heap.size w w' := by
  obtain ⟨b, o, rfl, hc⟩ := hr (by omega)
  obtain ⟨w1, e1, _, _, k1, _⟩ := mg_two w
  have c0 : w1.cell? ⟨b, o, none⟩ = some (.int .u8 (g 0 : Nat)) := at_below (hc 0 (by omega)) k1
  rw [e1] at c0
  have hb : b < w.heap.size := World.block_lt_of_cell? w ⟨b, o + 0, none⟩ (hc 0 (by omega))
  have t3 : (((g 0 : Nat) : Int) != 87) = true := by simp; omega
  have E1 := hide e1; have K1 := hide k1
  clear e1 k1 hc hr
  generalize g 0 = x at *
  go_enter Tryz.func42, Tryz.ntmps42
  go_wp2_with fail
  refine bodyPost_ret (v := .tuple #[msV 0 0 0 (.slice none 0 0), .int .i64 2]) (by simp [results, Tryz.results42, go_sem, msV]) rfl ⟨rfl, ?_⟩
  rw [← unhide E1]
  exact unhide K1

/-- Up to here: what is refused at first sight. -/
theorem dec_sight : True := trivial

set_option maxHeartbeats 1000000 in
theorem refDecode_sum (ao : Option Addr) (len cap : Nat) (g : Nat → Nat) (w : World) (hg : ∀ i, g i < 256) (hcap : len ≤ cap) (h1 : len ≤ 220) (h2 : 12 ≤ len) (hr : Rd w ao len (bF g)) (h3 : g 0 = 87) (h4 : ¬ opG g len) :
    Calls Tryz.prog 42 #[.slice ao len cap] w fun e w' => e = .returned (.tuple #[msV 0 0 0 (.slice none 0 0), .int .i64 5]) ∧ Below w.heap.size w w' := by
  obtain ⟨b, o, rfl, hc⟩ := hr (by omega)
  obtain ⟨w1, e1, mA, mB, k1, s1⟩ := mg_two w
  have c0 : w1.cell? ⟨b, o, none⟩ = some (.int .u8 87) := by have := at_below (hc 0 (by omega)) k1; rw [show bF g 0 = .int .u8 87 by unfold bF bV; rw [h3]; rfl] at this; exact this
  rw [e1] at c0
  have hb : b < w.heap.size := World.block_lt_of_cell? w ⟨b, o + 0, none⟩ (hc 0 (by omega))
  have E1 := hide e1; have MA := hide mA; have MB := hide mB; have K1 := hide k1; have S1 := hide s1; have HC := hide hc; have HR := hide hr; have HG := hide hg
  clear e1 mA mB k1 s1 hc hr hg
  go_enter Tryz.func42, Tryz.ntmps42
  go_wp2_with fail
  rw [← unhide E1]
  clear c0
  refine (refOpen_any (some ⟨b, o, none⟩) len cap g _ (unhide HG) (by omega) hcap ((unhide HR).below (unhide K1))).mono ?_
  rintro e w2 ⟨v2, ok, rfl, iff2, _, _, k2⟩
  have mA := (unhide MA).below k2; have mB := (unhide MB).below k2
  have K2 := hide (show Below w.heap.size w w2 from (unhide K1).trans (k2.mono (unhide K1).size)); have S2 := hide (show w.heap.size + 1 + 1 ≤ w2.heap.size by have := unhide S1; have := k2.size; omega)
  have hok : ok = false := by cases ok; rfl; exact absurd (iff2.1 rfl) h4
  subst hok
  clear k2 iff2 MA MB K1 S1
  have b0 := mB.cell0; have b1 := mB.cell1; have b2 := mB.cell2; have b3 := mB.cell3
  have a0 := mA.cell0; have a1 := mA.cell1; have a2 := mA.cell2; have a3 := mA.cell3
  have f0 := mA.free 0; have f1 := mA.free 1; have f2 := mA.free 2; have f3 := mA.free 3
  have MA := hide mA
  clear mA mB
  go_wp2_with fail
  obtain ⟨w3, e3, m3, k3⟩ := (unhide MA).put 0 0 0 (.slice none 0 0)
  rw [← e3]
  have p0 := m3.cell0; have p1 := m3.cell1; have p2 := m3.cell2; have p3 := m3.cell3
  have F3 := hide (below_of_kept (unhide K2) k3 (Nat.le_refl _) (unhide K2).size)
  clear e3 m3 k3 b0 b1 b2 b3 a0 a1 a2 a3 f0 f1 f2 f3
  refine bodyPost_ret (v := .tuple #[msV 0 0 0 (.slice none 0 0), .int .i64 5]) (by simp [results, Tryz.results42, go_sem, msV, p0, p1, p2, p3]) rfl ⟨rfl, unhide F3⟩

set_option maxHeartbeats 1000000 in
theorem refDecode_full (ao : Option Addr) (len cap : Nat) (g : Nat → Nat) (w : World) (hg : ∀ i, g i < 256) (hcap : len ≤ cap) (h1 : len ≤ 220) (h2 : 12 ≤ len) (hr : Rd w ao len (bF g)) (h3 : g 0 = 87) (h4 : opG g len) (h5 : 24 < g 7) :
    Calls Tryz.prog 42 #[.slice ao len cap] w fun e w' => e = .returned (.tuple #[msV 0 0 0 (.slice none 0 0), .int .i64 6]) ∧ Below w.heap.size w w' := by
  obtain ⟨b, o, rfl, hc⟩ := hr (by omega)
  obtain ⟨w1, e1, mA, mB, k1, s1⟩ := mg_two w
  have c0 : w1.cell? ⟨b, o, none⟩ = some (.int .u8 87) := by have := at_below (hc 0 (by omega)) k1; rw [show bF g 0 = .int .u8 87 by unfold bF bV; rw [h3]; rfl] at this; exact this
  rw [e1] at c0
  have hb : b < w.heap.size := World.block_lt_of_cell? w ⟨b, o + 0, none⟩ (hc 0 (by omega))
  have E1 := hide e1; have MA := hide mA; have MB := hide mB; have K1 := hide k1; have S1 := hide s1; have HC := hide hc; have HR := hide hr; have HG := hide hg
  clear e1 mA mB k1 s1 hc hr hg
  go_enter Tryz.func42, Tryz.ntmps42
  go_wp2_with fail
  rw [← unhide E1]
  clear c0
  refine (refOpen_any (some ⟨b, o, none⟩) len cap g _ (unhide HG) (by omega) hcap ((unhide HR).below (unhide K1))).mono ?_
  rintro e w2 ⟨v2, ok, rfl, iff2, _, _, k2⟩
  have mA := (unhide MA).below k2; have mB := (unhide MB).below k2
  have K2 := hide (show Below w.heap.size w w2 from (unhide K1).trans (k2.mono (unhide K1).size)); have S2 := hide (show w.heap.size + 1 + 1 ≤ w2.heap.size by have := unhide S1; have := k2.size; omega)
  have hok : ok = true := iff2.2 h4
  subst hok
  clear k2 iff2 MA MB K1 S1
  have c7 : w2.cell? ⟨b, o + 7, none⟩ = some (.int .u8 (g 7 : Nat)) := at_below (unhide HC 7 (by omega)) (unhide K2)
  have hx7 : g 7 < 256 := unhide HG 7
  have h5' : (24 : Int) < ((g 7 : Nat) : Int) := by omega
  clear HC HG HR
  generalize g 7 = x at *
  have b0 := mB.cell0; have b1 := mB.cell1; have b2 := mB.cell2; have b3 := mB.cell3
  have a0 := mA.cell0; have a1 := mA.cell1; have a2 := mA.cell2; have a3 := mA.cell3
  have f0 := mA.free 0; have f1 := mA.free 1; have f2 := mA.free 2; have f3 := mA.free 3
  have MA := hide mA
  clear mA mB
  go_wp2_with fail
  obtain ⟨w3, e3, m3, k3⟩ := (unhide MA).put 0 0 0 (.slice none 0 0)
  rw [← e3]
  have p0 := m3.cell0; have p1 := m3.cell1; have p2 := m3.cell2; have p3 := m3.cell3
  have F3 := hide (below_of_kept (unhide K2) k3 (Nat.le_refl _) (unhide K2).size)
  clear e3 m3 k3 b0 b1 b2 b3 a0 a1 a2 a3 f0 f1 f2 f3
  refine bodyPost_ret (v := .tuple #[msV 0 0 0 (.slice none 0 0), .int .i64 6]) (by simp [results, Tryz.results42, go_sem, msV, p0, p1, p2, p3]) rfl ⟨rfl, unhide F3⟩

set_option maxHeartbeats 1000000 in
theorem refDecode_count (ao : Option Addr) (len cap : Nat) (g : Nat → Nat) (w : World) (hg : ∀ i, g i < 256) (hcap : len ≤ cap) (h1 : len ≤ 220) (h2 : 12 ≤ len) (hr : Rd w ao len (bF g)) (h3 : g 0 = 87) (h4 : opG g len) (h5 : g 7 ≤ 24) (h6 : len ≠ 12 + 8 * g 7) :
    Calls Tryz.prog 42 #[.slice ao len cap] w fun e w' => e = .returned (.tuple #[msV 0 0 0 (.slice none 0 0), .int .i64 2]) ∧ Below w.heap.size w w' := by
  obtain ⟨b, o, rfl, hc⟩ := hr (by omega)
  obtain ⟨w1, e1, mA, mB, k1, s1⟩ := mg_two w
  have c0 : w1.cell? ⟨b, o, none⟩ = some (.int .u8 87) := by have := at_below (hc 0 (by omega)) k1; rw [show bF g 0 = .int .u8 87 by unfold bF bV; rw [h3]; rfl] at this; exact this
  rw [e1] at c0
  have hb : b < w.heap.size := World.block_lt_of_cell? w ⟨b, o + 0, none⟩ (hc 0 (by omega))
  have E1 := hide e1; have MA := hide mA; have MB := hide mB; have K1 := hide k1; have S1 := hide s1; have HC := hide hc; have HR := hide hr; have HG := hide hg
  clear e1 mA mB k1 s1 hc hr hg
  go_enter Tryz.func42, Tryz.ntmps42
  go_wp2_with fail
  rw [← unhide E1]
  clear c0
  refine (refOpen_any (some ⟨b, o, none⟩) len cap g _ (unhide HG) (by omega) hcap ((unhide HR).below (unhide K1))).mono ?_
  rintro e w2 ⟨v2, ok, rfl, iff2, _, _, k2⟩
  have mA := (unhide MA).below k2; have mB := (unhide MB).below k2
  have K2 := hide (show Below w.heap.size w w2 from (unhide K1).trans (k2.mono (unhide K1).size)); have S2 := hide (show w.heap.size + 1 + 1 ≤ w2.heap.size by have := unhide S1; have := k2.size; omega)
  have hok : ok = true := iff2.2 h4
  subst hok
  clear k2 iff2 MA MB K1 S1
  have c7 : w2.cell? ⟨b, o + 7, none⟩ = some (.int .u8 (g 7 : Nat)) := at_below (unhide HC 7 (by omega)) (unhide K2)
  have hx7 : g 7 < 256 := unhide HG 7
  clear HC HG HR h3 h4
  generalize g 7 = x at *
  have t6 : (((len : Nat) : Int) != 12 + 8 * (x : Int)) = true := by simp; omega
  have b0 := mB.cell0; have b1 := mB.cell1; have b2 := mB.cell2; have b3 := mB.cell3
  have a0 := mA.cell0; have a1 := mA.cell1; have a2 := mA.cell2; have a3 := mA.cell3
  have f0 := mA.free 0; have f1 := mA.free 1; have f2 := mA.free 2; have f3 := mA.free 3
  have MA := hide mA
  clear mA mB
  go_wp2_with fail
  obtain ⟨w3, e3, m3, k3⟩ := (unhide MA).put 0 0 0 (.slice none 0 0)
  rw [← e3]
  have p0 := m3.cell0; have p1 := m3.cell1; have p2 := m3.cell2; have p3 := m3.cell3
  have F3 := hide (below_of_kept (unhide K2) k3 (Nat.le_refl _) (unhide K2).size)
  clear e3 m3 k3 b0 b1 b2 b3 a0 a1 a2 a3 f0 f1 f2 f3
  refine bodyPost_ret (v := .tuple #[msV 0 0 0 (.slice none 0 0), .int .i64 2]) (by simp [results, Tryz.results42, go_sem, msV, p0, p1, p2, p3]) rfl ⟨rfl, unhide F3⟩

end Go.Proofs.YthimcecbgpamdaaGreat

namespace Go.Proofs.YthimcecbgpamdaaGreat
open Go.RowKit

theorem run_byteInt {f : Operand → Value} {o : Oper} (x : Operand) (ho : o.op = .convert 5 3 x) {v : Nat} (hx : f x = bV v) (hv : v < 256) (w : World) : (execOp f o).run Tryz.prog w = .ok (.value (.int .i64 (v : Nat))) w := by
  unfold bV at hx
  unfold execOp
  rw [ho]
  dsimp only
  rw [hx]
  go_simp
  rw [IntKind.wrap_i64]
  omega
theorem run_loadI {f : Operand → Value} {o : Oper} (x : Operand) (ho : o.op = .load 3 x) {a : Addr} {v : Int} (hx : f x = .pointer (some a)) {w : World} (hc : w.cell? a = some (.int .i64 v)) :
    (execOp f o).run Tryz.prog w = .ok (.value (.int .i64 v)) w := by
  unfold execOp
  rw [ho]
  dsimp only
  rw [hx]
  go_simp
theorem run_loadS {f : Operand → Value} {o : Oper} (x : Operand) (ho : o.op = .load 65 x) {a : Addr} {ao : Option Addr} {n c : Nat} (hx : f x = .pointer (some a)) {w : World} (hc : w.cell? a = some (.slice ao n c)) :
    (execOp f o).run Tryz.prog w = .ok (.value (.slice ao n c)) w := by
  unfold execOp
  rw [ho]
  dsimp only
  rw [hx]
  go_simp
theorem run_field {f : Operand → Value} {o : Oper} (x : Operand) (i : Nat) (ho : o.op = .fieldAddr 67 x i) {b : Nat} (hx : f x = .pointer (some ⟨b, 0, none⟩)) (hi : i < 4) (w : World) :
    (execOp f o).run Tryz.prog w = .ok (.value (.pointer (some ⟨b, i, none⟩))) w := by
  have : i = 0 ∨ i = 1 ∨ i = 2 ∨ i = 3 := by omega
  unfold execOp
  rw [ho]
  dsimp only
  rw [hx]
  rcases this with rfl | rfl | rfl | rfl <;> go_simp
theorem run_mulI {f : Operand → Value} {o : Oper} (x y : Operand) (ho : o.op = .binOp .mul 3 x y 3) {u v : Int} (hx : f x = .int .i64 u) (hy : f y = .int .i64 v) (h1 : -9223372036854775808 ≤ u * v) (h2 : u * v ≤ 9223372036854775807) (w : World) : (execOp f o).run Tryz.prog w = .ok (.value (.int .i64 (u * v))) w := by
  unfold execOp
  rw [ho]
  dsimp only
  rw [hx, hy]
  go_simp
  generalize u * v = q at *
  rw [IntKind.wrap_i64]
  omega
theorem run_addM {f : Operand → Value} {o : Oper} (x y : Operand) (ho : o.op = .binOp .add 3 x y 3) {u v : Int} (hx : f x = .int .i64 u) (hy : f y = .int .i64 v) (h1 : -9223372036854775808 ≤ u + v) (h2 : u + v ≤ 9223372036854775807) (w : World) : (execOp f o).run Tryz.prog w = .ok (.value (.int .i64 (u + v))) w := by
  unfold execOp
  rw [ho]
  dsimp only
  rw [hx, hy]
  go_simp
  rw [IntKind.wrap_i64]
  omega
theorem wp_storeI (w : World) {o : Oper} {a : Act} {K : Act → World → Prop} {Q : Exit → Act → World → Prop} (x y : Operand) (ho : o.op = .store 3 x y) {ad : Addr} {v : Int} (hx : a.eval x = .pointer (some ad)) (hy : a.eval y = .int .i64 v) {u : Value} (hc : w.cell? ad = some u) (hf : w.frozen? ad = false) (hd : o.dst = none)
    (h : K a (w.setCell ad (.int .i64 v))) : WpI Tryz.prog o a w K Q := by
  refine ⟨?_⟩
  unfold Oper.wp execOp
  rw [ho]
  dsimp only
  rw [hx, hy]
  go_simp
  exact h
theorem run_buildM2 {f : Operand → Value} {o : Oper} (x y : Operand) (ho : o.op = .build 67 #[(0, x), (1, y)]) {u v : Int} (hx : f x = .int .i64 u) (hy : f y = .int .i64 v) (w : World) : (execOp f o).run Tryz.prog w = .ok (.value (msV u v 0 (.slice none 0 0))) w := by
  unfold execOp
  rw [ho]
  go_simp
  rfl
theorem wp_allocM (w : World) {o : Oper} {a : Act} {K : Act → World → Prop} {Q : Exit → Act → World → Prop} (ho : o.op = .alloc 67)
    (h : ∀ w', MgAt w' w.heap.size 0 0 0 (.slice none 0 0) → Below w.heap.size w w' → w'.heap.size = w.heap.size + 1 → K (a.put o.dst (.pointer (some ⟨w.heap.size, 0, none⟩))) w') : WpI Tryz.prog o a w K Q := by
  refine ⟨?_⟩
  have hh := h _ (MgAt.new w 0 0 0 (.slice none 0 0)) (al_below _ _) (al_size _ _)
  unfold Oper.wp execOp
  rw [ho]
  go_simp
  exact hh
theorem wp_storeM (w : World) {o : Oper} {a : Act} {K : Act → World → Prop} {Q : Exit → Act → World → Prop} (x y : Operand) (ho : o.op = .store 67 x y) {b : Nat} {k1 f1 r1 k f r : Int} {v1 : Value} {vo : Option Addr} {vn vc : Nat} (hx : a.eval x = .pointer (some ⟨b, 0, none⟩)) (hy : a.eval y = msV k f r (.slice vo vn vc)) (hm : MgAt w b k1 f1 r1 v1) (hd : o.dst = none)
    (h : ∀ w', MgAt w' b k f r (.slice vo vn vc) → Kept b w w' → K a w') : WpI Tryz.prog o a w K Q := by
  refine ⟨?_⟩
  have c0 := hm.cell0; have c1 := hm.cell1; have c2 := hm.cell2; have c3 := hm.cell3
  have f0 := hm.free 0; have f1 := hm.free 1; have f2 := hm.free 2; have f3 := hm.free 3
  obtain ⟨w', e, m, kp⟩ := hm.put k f r (.slice vo vn vc)
  have hh := h w' m kp
  rw [e] at hh
  clear hm m kp h e
  unfold msV at hy
  unfold Oper.wp execOp
  rw [ho]
  dsimp only
  rw [hx, hy]
  go_simp
  exact hh

end Go.Proofs.YthimcecbgpamdaaGreat

namespace Go.Proofs.YthimcecbgpamdaaGreat
open Go.RowKit

/-- Two bytes' cells. -/
def Cb2 (b p q x y : Nat) (w : World) : Prop := w.cell? ⟨b, p, none⟩ = some (bV x) ∧ w.cell? ⟨b, q, none⟩ = some (bV y)
theorem Cb2.below {b p q x y : Nat} {w w' : World} (h : Cb2 b p q x y w) (k : Below w.heap.size w w') : Cb2 b p q x y w' := ⟨at_below h.1 k, at_below h.2 k⟩
theorem Cb2.kept {b p q x y z : Nat} {w w' : World} (h : Cb2 b p q x y w) (k : Kept z w w') (hz : b ≠ z) : Cb2 b p q x y w' := ⟨at_kept h.1 k hz, at_kept h.2 k hz⟩
/-- A number's cell and a byte's. -/
def Cmb (m b p : Nat) (x : Int) (y : Nat) (w : World) : Prop := w.cell? ⟨m, 2, none⟩ = some (.int .i64 x) ∧ w.cell? ⟨b, p, none⟩ = some (bV y)
theorem sg_wrap (v : Nat) (h : v < 18446744073709551616) : IntKind.i64.wrap (v : Int) = sg v := by rw [IntKind.wrap_i64]; unfold sg; split <;> omega

set_option maxRecDepth 100000 in
set_option maxHeartbeats 4000000 in
theorem refDecode_all (ao : Option Addr) (len cap : Nat) (g : Nat → Nat) (w : World) (hg : ∀ i, g i < 256) (hcap : len ≤ cap) (h1 : len ≤ 220) (h2 : 12 ≤ len) (hr : Rd w ao len (bF g)) (h3 : g 0 = 87) (h4 : opG g len) (h5 : g 7 ≤ 24) (h6 : len = 12 + 8 * g 7) :
    Calls Tryz.prog 42 #[.slice ao len cap] w fun e w' => ∃ (E : Int) (v : Value), E = wrongM (g 1 : Nat) (g 2 : Nat) (dR g : Nat) (g 7) ∧ e = .returned (.tuple #[msV (dN E (g 1) : Nat) (dN E (g 2) : Nat) (dN E (dR g) : Nat) v, .int .i64 E]) ∧ w'.ownsRow w.heap.size 3 1 v (dN E (g 7)) (rowV (iF (dV g)) (dN E (g 7))) ∧ Below w.heap.size w w' := by
  have H6 := hide h6
  clear h6
  obtain ⟨b, o, rfl, hc⟩ := hr (by omega)
  obtain ⟨w1, e1, mA, mB, k1, s1⟩ := mg_two w
  have c0 : w1.cell? ⟨b, o, none⟩ = some (.int .u8 87) := by have := at_below (hc 0 (by omega)) k1; rw [show bF g 0 = .int .u8 87 by unfold bF bV; rw [h3]; rfl] at this; exact this
  rw [e1] at c0
  have hb : b < w.heap.size := World.block_lt_of_cell? w ⟨b, o + 0, none⟩ (hc 0 (by omega))
  have E1 := hide e1; have MA := hide mA; have MB := hide mB; have K1 := hide k1; have S1 := hide s1; have HC := hide hc; have HR := hide hr; have HG := hide hg
  clear e1 mA mB k1 s1 hc hr hg
  go_enter Tryz.func42, Tryz.ntmps42
  go_wp2_with fail
  rw [← unhide E1]
  clear c0
  refine (refOpen_any (some ⟨b, o, none⟩) len cap g _ (unhide HG) (by omega) hcap ((unhide HR).below (unhide K1))).mono ?_
  rintro e w2 ⟨v2, ok, rfl, iff2, _, _, k2⟩
  have mA := (unhide MA).below k2; have mB := (unhide MB).below k2
  have K2 := hide (show Below w.heap.size w w2 from (unhide K1).trans (k2.mono (unhide K1).size)); have S2 := hide (show w.heap.size + 1 + 1 ≤ w2.heap.size by have := unhide S1; have := k2.size; omega)
  have hok : ok = true := iff2.2 h4
  subst hok
  clear k2 iff2 MA MB K1 S1
  have c7 : w2.cell? ⟨b, o + 7, none⟩ = some (.int .u8 (g 7 : Nat)) := at_below (unhide HC 7 (by omega)) (unhide K2)
  have hx7 : g 7 < 256 := unhide HG 7
  obtain ⟨n, en⟩ : ∃ n, g 7 = n := ⟨_, rfl⟩
  have EN := hide en
  have h6 := unhide H6
  rw [en] at c7 h5 h6 hx7
  have t6 : (((len : Nat) : Int) != 12 + 8 * (n : Int)) = false := by rw [h6]; simp
  have H7 := hide h6
  clear h6 H6
  have hS0 : Cb2 b (o + 1) (o + 2) (g 1) (g 2) w2.drew := ⟨at_below (w' := w2.drew) (unhide HC 1 (by omega)) (below_drew (unhide K2)), at_below (w' := w2.drew) (unhide HC 2 (by omega)) (below_drew (unhide K2))⟩
  obtain ⟨x1, ex1⟩ : ∃ x, g 1 = x := ⟨_, rfl⟩
  obtain ⟨x2, ex2⟩ : ∃ x, g 2 = x := ⟨_, rfl⟩
  have EX1 := hide ex1; have EX2 := hide ex2
  rw [ex1, ex2] at hS0
  have HS := hide hS0
  have Y1 := hide (show x1 < 256 by rw [← ex1]; exact unhide HG 1); have Y2 := hide (show x2 < 256 by rw [← ex2]; exact unhide HG 2)
  have MA := hide mA; have MB := hide mB
  clear mA mB en ex1 ex2 HR h3 h4 hS0
  go_wp2_with fail
  clear c7 t6
  refine wp_leaves (fun a0 a' w' => (MgAt w' w2.heap.size (x1 : Nat) (x2 : Nat) 0 (.slice none 0 0) ∧ Below w2.heap.size w2 w' ∧ w2.heap.size + 1 ≤ w'.heap.size) ∧ a' = ((((((((((a0.put (some 51) (.slice (some ⟨b, o, none⟩) len cap)).put (some 52) (.pointer (some ⟨b, o + 1, none⟩))).put (some 53) (bV x1)).put (some 54) (.int .i64 (x1 : Nat))).put (some 55) (.slice (some ⟨b, o, none⟩) len cap)).put (some 56) (.pointer (some ⟨b, o + 2, none⟩))).put (some 57) (bV x2)).put (some 58) (.int .i64 (x2 : Nat))).put (some 59) (msV (x1 : Nat) (x2 : Nat) 0 (.slice none 0 0))).put (some 8) (.pointer (some ⟨w2.heap.size, 0, none⟩)))) ?reg ?rest
  case reg =>
    intro A eA
    have b0 : A.eval (.tmp 0) = .slice (some ⟨b, o, none⟩) len cap := by rw [eA]; rfl
    have hs : 109 ≤ A.tmps.size := by rw [eA]; exact of_decide_eq_true rfl
    have hS := unhide HS
    clear eA
    refine region_I (S := Cb2 b (o + 1) (o + 2) x1 x2) (.rd 0 (.rd 1 (.rd 2 (.rd 3 (.rd 4 (.rd 5 (.rd 6 (.rd 7 (.rd 8 (.go 9 (.go 10 .fin))))))))))) [] (by kernel_rfl) (by kernel_rfl) ?_
    refine sI_read (v := (.slice (some ⟨b, o, none⟩) len cap)) rfl (fun _ _ _ h => absurd h.1 (fun e => nomatch e)) (wanted_rd rfl) hS (fun wx _ => run_move (.tmp 0) rfl b0 wx) ?_
    show SeqI _ _ _ _ _ _ (Act.put _ (some 51) _) _
    refine sI_read (v := (.pointer (some ⟨b, o + 1, none⟩))) rfl (fun _ _ _ h => absurd h.1 (fun e => nomatch e)) (wanted_rd rfl) hS (fun wx _ => run_indexB (i := 1) (.tmp 51) (.const (.int .i64 1)) rfl (ev_same _ _ _ (by omega)) rfl (by omega) wx) ?_
    show SeqI _ _ _ _ _ _ (Act.put _ (some 52) _) _
    refine sI_read (v := (bV x1)) rfl (fun _ _ _ h => absurd h.1 (fun e => nomatch e)) (wanted_rd rfl) hS (fun wx hx => run_loadB (.tmp 52) rfl (ev_same _ _ _ (by simp only [sz_put]; omega)) hx.1) ?_
    show SeqI _ _ _ _ _ _ (Act.put _ (some 53) _) _
    refine sI_read (v := (.int .i64 (x1 : Nat))) rfl (fun _ _ _ h => absurd h.1 (fun e => nomatch e)) (wanted_rd rfl) hS (fun wx _ => run_byteInt (.tmp 53) rfl (ev_same _ _ _ (by simp only [sz_put]; omega)) (unhide Y1) wx) ?_
    show SeqI _ _ _ _ _ _ (Act.put _ (some 54) _) _
    refine sI_read (v := (.slice (some ⟨b, o, none⟩) len cap)) rfl (fun _ _ _ h => absurd h.1 (fun e => nomatch e)) (wanted_rd rfl) hS (fun wx _ => run_move (.tmp 0) rfl ((ev_other _ _ (by decide)).trans ((ev_other _ _ (by decide)).trans ((ev_other _ _ (by decide)).trans ((ev_other _ _ (by decide)).trans b0)))) wx) ?_
    show SeqI _ _ _ _ _ _ (Act.put _ (some 55) _) _
    refine sI_read (v := (.pointer (some ⟨b, o + 2, none⟩))) rfl (fun _ _ _ h => absurd h.1 (fun e => nomatch e)) (wanted_rd rfl) hS (fun wx _ => run_indexB (i := 2) (.tmp 55) (.const (.int .i64 2)) rfl (ev_same _ _ _ (by simp only [sz_put]; omega)) rfl (by omega) wx) ?_
    show SeqI _ _ _ _ _ _ (Act.put _ (some 56) _) _
    refine sI_read (v := (bV x2)) rfl (fun _ _ _ h => absurd h.1 (fun e => nomatch e)) (wanted_rd rfl) hS (fun wx hx => run_loadB (.tmp 56) rfl (ev_same _ _ _ (by simp only [sz_put]; omega)) hx.2) ?_
    show SeqI _ _ _ _ _ _ (Act.put _ (some 57) _) _
    refine sI_read (v := (.int .i64 (x2 : Nat))) rfl (fun _ _ _ h => absurd h.1 (fun e => nomatch e)) (wanted_rd rfl) hS (fun wx _ => run_byteInt (.tmp 57) rfl (ev_same _ _ _ (by simp only [sz_put]; omega)) (unhide Y2) wx) ?_
    show SeqI _ _ _ _ _ _ (Act.put _ (some 58) _) _
    refine sI_read (v := (msV (x1 : Nat) (x2 : Nat) 0 (.slice none 0 0))) rfl (fun _ _ _ h => absurd h.1 (fun e => nomatch e)) (wanted_rd rfl) hS (fun wx _ => run_buildM2 (.tmp 54) (.tmp 58) rfl ((ev_other _ _ (by decide)).trans ((ev_other _ _ (by decide)).trans ((ev_other _ _ (by decide)).trans ((ev_other _ _ (by decide)).trans (ev_same _ _ _ (by simp only [sz_put]; omega)))))) (ev_same _ _ _ (by simp only [sz_put]; omega)) wx) ?_
    show SeqI _ _ _ _ _ _ (Act.put _ (some 59) _) _
    refine sI_do rfl (wanted_rd rfl) (fun K hK => ?_)
    refine wp_allocM _ rfl ?_
    intro w3 m3 k3 s3
    have hS3 := hS.below k3
    refine hK _ _ (fun _ => hS3) ?_
    clear hK K
    show SeqI _ _ _ _ _ _ (Act.put _ (some 8) _) _
    refine sI_do rfl (wanted_rd rfl) (fun K hK => ?_)
    refine wp_storeM _ (.tmp 8) (.tmp 59) rfl (ev_same _ _ _ (by simp only [sz_put]; omega)) ((ev_other _ _ (by decide)).trans (ev_same _ _ _ (by simp only [sz_put]; omega))) m3 rfl ?_
    intro w4 m4 k4
    have hbw : b ≠ w2.drew.heap.size := by have := unhide S2; show b ≠ w2.heap.size; omega
    have hS4 := hS3.kept k4 hbw
    refine hK _ _ (fun _ => hS4) ?_
    clear hK K
    refine sI_end ?_
    exact ⟨rfl, ⟨m4, below_of_kept ((below_drew (Below.refl _ _)).trans k3) k4 (Nat.le_refl _) (by rw [s3]; exact Nat.le_succ _), by have := k4.size; have e : w2.drew.heap.size = w2.heap.size := rfl; omega⟩, rfl⟩
  case rest =>
    rintro a' w3 ⟨⟨m3, k3, s3⟩, rfl⟩
    have M3 := hide m3; have S3 := hide s3; have K3 := hide (show Below w.heap.size w w3 from (unhide K2).trans (k3.mono (unhide K2).size))
    have A3 := hide ((unhide MA).below k3); have B3 := hide ((unhide MB).below k3)
    clear m3 k3 s3 MA MB HS
    go_frame
    go_wp2_with fail
    have SZ := hide (unhide S2)
    obtain ⟨M, eM⟩ : ∃ M, w2.heap.size = M := ⟨_, rfl⟩
    rw [eM] at SZ M3 S3 ⊢
    clear K2 S2 eM
    go_loopw [9] (fun ks wr => ∃ k : Nat, ks = .int .i64 (3 + k : Nat) ∧ k ≤ 4 ∧ MgAt wr M (x1 : Nat) (x2 : Nat) (vn (fun i => g (3 + i)) k : Nat) (.slice none 0 0) ∧ MgAt wr w.heap.size 0 0 0 (.slice none 0 0) ∧ MgAt wr (w.heap.size + 1) 0 0 0 (.slice none 0 0) ∧ M + 1 ≤ wr.heap.size ∧ Below w.heap.size w wr)
      (fun ks _ => 7 - (intOf ks).toNat)
    case atStart => exact ⟨0, rfl, by omega, unhide M3, unhide A3, unhide B3, unhide S3, unhide K3⟩
    case round =>
      obtain ⟨k, rfl, hk, mM, mA, mB, hs, hK⟩ := hrel
      rename World => wr
      have RM := hide mM; have RA := hide mA; have RB := hide mB; have RS := hide hs; have RK := hide hK
      clear mM mA mB hs hK A3 B3 M3 S3 K3
      by_cases hk4 : k < 4
      · have hu : vn (fun i => g (3 + i)) k < 16777216 := Nat.lt_of_lt_of_le (vn_lt (fun i => unhide HG _) k) (by
          have : 256 ^ k ≤ 256 ^ 3 := Nat.pow_le_pow_right (by omega) (by omega)
          exact this)
        have hy := unhide HG (3 + k)
        have hS0 : Cmb M b (o + (3 + k)) (vn (fun i => g (3 + i)) k : Nat) (g (3 + k)) wr.drew := ⟨(unhide RM).cell2, at_below (w' := wr.drew) (unhide HC (3 + k) (by have := unhide H7; omega)) (below_drew (unhide RK))⟩
        have EV := hide (show vn (fun i => g (3 + i)) (k + 1) = vn (fun i => g (3 + i)) k * 256 + g (3 + k) from rfl)
        obtain ⟨u, eu⟩ : ∃ u, vn (fun i => g (3 + i)) k = u := ⟨_, rfl⟩
        obtain ⟨y, ey⟩ : ∃ y, g (3 + k) = y := ⟨_, rfl⟩
        rw [eu, ey] at hS0 EV
        rw [eu] at hu RM
        rw [ey] at hy
        have HS := hide hS0
        clear hS0 eu ey
        have hk' : ((3 + k : Nat) : Int) < 7 := by omega
        go_wp2_with fail
        refine wp_leaves (fun a0 a' w' => (MgAt w' M (x1 : Nat) (x2 : Nat) ((u : Nat) * 256 + (y : Nat)) (.slice none 0 0) ∧ Kept M wr w') ∧ a' = ((((((((((a0.put (some 64) (.pointer (some ⟨M, 2, none⟩))).put (some 65) (.int .i64 (u : Nat))).put (some 66) (.int .i64 ((u : Nat) * 256))).put (some 67) (.slice (some ⟨b, o, none⟩) len cap)).put (some 68) (.int .i64 ((3 + k : Nat) : Int))).put (some 69) (.pointer (some ⟨b, o + (3 + k), none⟩))).put (some 70) (bV y)).put (some 71) (.int .i64 (y : Nat))).put (some 72) (.int .i64 ((u : Nat) * 256 + (y : Nat)))).put (some 73) (.pointer (some ⟨M, 2, none⟩)))) ?reg2 ?rest2
        case reg2 =>
          intro A eA
          have b0 : A.eval (.tmp 0) = .slice (some ⟨b, o, none⟩) len cap := by rw [eA]; rfl
          have b8 : A.eval (.tmp 8) = .pointer (some ⟨M, 0, none⟩) := by rw [eA]; rfl
          have b9 : A.eval (.tmp 9) = .int .i64 ((3 + k : Nat) : Int) := by rw [eA]; rfl
          have hs : 109 ≤ A.tmps.size := by rw [eA]; exact of_decide_eq_true rfl
          have hS := unhide HS
          clear eA
          refine region_I (S := Cmb M b (o + (3 + k)) (u : Nat) y) (.rd 0 (.rd 1 (.rd 2 (.rd 3 (.rd 4 (.rd 5 (.rd 6 (.rd 7 (.rd 8 (.rd 9 (.go 10 .fin))))))))))) [10] (by kernel_rfl) (by kernel_rfl) ?_
          refine sI_read (v := (.pointer (some ⟨M, 2, none⟩))) rfl (fun _ _ _ h => absurd h.1 (fun e => nomatch e)) (wanted_rd rfl) hS (fun wx _ => run_field (.tmp 8) 2 rfl b8 (by omega) wx) ?_
          show SeqI _ _ _ _ _ _ (Act.put _ (some 64) _) _
          refine sI_read (v := (.int .i64 (u : Nat))) rfl (fun _ _ _ h => absurd h.1 (fun e => nomatch e)) (wanted_rd rfl) hS (fun wx hx => run_loadI (.tmp 64) rfl (ev_same _ _ _ (by omega)) hx.1) ?_
          show SeqI _ _ _ _ _ _ (Act.put _ (some 65) _) _
          refine sI_read (v := (.int .i64 ((u : Nat) * 256))) rfl (fun _ _ _ h => absurd h.1 (fun e => nomatch e)) (wanted_rd rfl) hS (fun wx _ => run_mulI (.tmp 65) (.const (.int .i64 256)) rfl (ev_same _ _ _ (by simp only [sz_put]; omega)) rfl (by omega) (by omega) wx) ?_
          show SeqI _ _ _ _ _ _ (Act.put _ (some 66) _) _
          refine sI_read (v := (.slice (some ⟨b, o, none⟩) len cap)) rfl (fun _ _ _ h => absurd h.1 (fun e => nomatch e)) (wanted_rd rfl) hS (fun wx _ => run_move (.tmp 0) rfl ((ev_other _ _ (by decide)).trans ((ev_other _ _ (by decide)).trans ((ev_other _ _ (by decide)).trans b0))) wx) ?_
          show SeqI _ _ _ _ _ _ (Act.put _ (some 67) _) _
          refine sI_read (v := (.int .i64 ((3 + k : Nat) : Int))) rfl (fun _ _ _ h => absurd h.1 (fun e => nomatch e)) (wanted_rd rfl) hS (fun wx _ => run_move (.tmp 9) rfl ((ev_other _ _ (by decide)).trans ((ev_other _ _ (by decide)).trans ((ev_other _ _ (by decide)).trans ((ev_other _ _ (by decide)).trans b9)))) wx) ?_
          show SeqI _ _ _ _ _ _ (Act.put _ (some 68) _) _
          refine sI_read (v := (.pointer (some ⟨b, o + (3 + k), none⟩))) rfl (fun _ _ _ h => absurd h.1 (fun e => nomatch e)) (wanted_rd rfl) hS (fun wx _ => run_indexB (.tmp 67) (.tmp 68) rfl ((ev_other _ _ (by decide)).trans (ev_same _ _ _ (by simp only [sz_put]; omega))) (ev_same _ _ _ (by simp only [sz_put]; omega)) (by have := unhide H7; omega) wx) ?_
          show SeqI _ _ _ _ _ _ (Act.put _ (some 69) _) _
          refine sI_read (v := (bV y)) rfl (fun _ _ _ h => absurd h.1 (fun e => nomatch e)) (wanted_rd rfl) hS (fun wx hx => run_loadB (.tmp 69) rfl (ev_same _ _ _ (by simp only [sz_put]; omega)) hx.2) ?_
          show SeqI _ _ _ _ _ _ (Act.put _ (some 70) _) _
          refine sI_read (v := (.int .i64 (y : Nat))) rfl (fun _ _ _ h => absurd h.1 (fun e => nomatch e)) (wanted_rd rfl) hS (fun wx _ => run_byteInt (.tmp 70) rfl (ev_same _ _ _ (by simp only [sz_put]; omega)) hy wx) ?_
          show SeqI _ _ _ _ _ _ (Act.put _ (some 71) _) _
          refine sI_read (v := (.int .i64 ((u : Nat) * 256 + (y : Nat)))) rfl (fun _ _ _ h => absurd h.1 (fun e => nomatch e)) (wanted_rd rfl) hS (fun wx _ => run_addM (.tmp 66) (.tmp 71) rfl ((ev_other _ _ (by decide)).trans ((ev_other _ _ (by decide)).trans ((ev_other _ _ (by decide)).trans ((ev_other _ _ (by decide)).trans ((ev_other _ _ (by decide)).trans (ev_same _ _ _ (by simp only [sz_put]; omega))))))) (ev_same _ _ _ (by simp only [sz_put]; omega)) (by omega) (by omega) wx) ?_
          show SeqI _ _ _ _ _ _ (Act.put _ (some 72) _) _
          refine sI_read (v := (.pointer (some ⟨M, 2, none⟩))) rfl (fun _ _ _ h => absurd h.1 (fun e => nomatch e)) (wanted_rd rfl) hS (fun wx _ => run_field (.tmp 8) 2 rfl ((ev_other _ _ (by decide)).trans ((ev_other _ _ (by decide)).trans ((ev_other _ _ (by decide)).trans ((ev_other _ _ (by decide)).trans ((ev_other _ _ (by decide)).trans ((ev_other _ _ (by decide)).trans ((ev_other _ _ (by decide)).trans ((ev_other _ _ (by decide)).trans ((ev_other _ _ (by decide)).trans b8))))))))) (by omega) wx) ?_
          show SeqI _ _ _ _ _ _ (Act.put _ (some 73) _) _
          refine sI_do rfl (wanted_rd rfl) (fun K hK => ?_)
          obtain ⟨w4, e4, m4, k4⟩ := (unhide RM).put2 ((u : Nat) * 256 + (y : Nat))
          have f4 : wr.frozen? ⟨M, 2, none⟩ = false := (unhide RM).free 2
          refine wp_storeI _ (.tmp 73) (.tmp 72) rfl (ev_same _ _ _ (by simp only [sz_put]; omega)) ((ev_other _ _ (by decide)).trans (ev_same _ _ _ (by simp only [sz_put]; omega))) (show wr.drew.cell? ⟨M, 2, none⟩ = some _ from hS.1) f4 rfl ?_
          refine hK _ _ (fun h => absurd h (by decide)) ?_
          clear hK K
          refine sI_end ?_
          refine ⟨rfl, ⟨?_, ?_⟩, rfl⟩
          · obtain ⟨w5, e5, m5, _⟩ := (show MgAt wr.drew M (x1 : Nat) (x2 : Nat) (u : Nat) (.slice none 0 0) from unhide RM).put2 ((u : Nat) * 256 + (y : Nat))
            rw [← e5]; exact m5
          · exact (kept_drew wr).trans (kept_set wr.drew M 2 _) (Or.inl rfl)
        case rest2 =>
          rintro a' w4 ⟨⟨m4, k4⟩, rfl⟩
          have M4 := hide (show MgAt w4 M (x1 : Nat) (x2 : Nat) (vn (fun i => g (3 + i)) (k + 1) : Nat) (.slice none 0 0) by rw [unhide EV]; exact m4)
          have A4 := hide ((unhide RA).kept k4 (by have := unhide SZ; omega)); have B4 := hide ((unhide RB).kept k4 (by have := unhide SZ; omega)); have S4 := hide (show M + 1 ≤ w4.heap.size by have := unhide RS; have := k4.size; omega)
          have K4 := hide (below_of_kept (unhide RK) k4 (by have := unhide SZ; omega) (unhide RK).size)
          clear m4 k4 RM RA RB RS RK HS EV
          go_frame
          go_wp2_with fail
          go_roundw
          case rel => exact ⟨k + 1, by go_num, by omega, unhide M4, unhide A4, unhide B4, unhide S4, unhide K4⟩
          case measure => simp [intOf] <;> omega
      · have e4 : k = 4 := by omega
        subst e4
        have RM2 := hide (show MgAt wr M (x1 : Nat) (x2 : Nat) (dR g : Nat) (.slice none 0 0) from unhide RM)
        clear RM
        rw [show ((3 + 4 : Nat) : Int) = 7 from rfl]
        go_wp2_with fail
        go_loopw [10, 11, 12] (fun is _ _ wr => ∃ (i c : Nat) (at_ : Option Addr), is = .int .i64 i ∧ i ≤ n ∧ MgAt wr M (x1 : Nat) (x2 : Nat) (dR g : Nat) (.slice at_ i c) ∧ wr.ownsRow (M + 1) 3 1 (.slice at_ i c) i (rowV (iF (dV g)) i) ∧ MgAt wr w.heap.size 0 0 0 (.slice none 0 0) ∧ MgAt wr (w.heap.size + 1) 0 0 0 (.slice none 0 0) ∧ M + 1 ≤ wr.heap.size ∧ Below w.heap.size w wr)
          (fun is _ _ _ => n - (intOf is).toNat)
        case atStart => exact ⟨0, 0, none, rfl, Nat.zero_le _, unhide RM2, World.ownsRow_nil _ _ _ _, unhide RA, unhide RB, unhide RS, unhide RK⟩
        case round =>
          obtain ⟨i, c, at_, rfl, hi, mM, ho, mA, mB, hs, hK⟩ := hrel
          rename World => wq
          have c3 := mM.cell3; have f3 := mM.free 3
          have QM := hide mM; have QO := hide ho; have QA := hide mA; have QB := hide mB; have QS := hide hs; have QK := hide hK
          clear mM ho mA mB hs hK RM2 RA RB RS RK
          by_cases hin : i < n
          · go_wp2_with fail
            go_loopw [11, 12] (fun vs ks wx => wq = wx ∧ ∃ k : Nat, ks = .int .i64 k ∧ k ≤ 8 ∧ vs = .int .u64 (vn (fun k => g (8 + 8 * i + k)) k : Nat)) (fun _ ks _ => 8 - (intOf ks).toNat)
            case atStart => exact ⟨rfl, 0, rfl, by omega, rfl⟩
            case round =>
              obtain ⟨rfl, k, rfl, hk, rfl⟩ := hrel
              by_cases hk8 : k < 8
              · have hv : vn (fun k => g (8 + 8 * i + k)) k < 72057594037927936 := Nat.lt_of_lt_of_le (vn_lt (fun i => unhide HG _) k) (by
                  have : 256 ^ k ≤ 256 ^ 7 := Nat.pow_le_pow_right (by omega) (by omega)
                  exact this)
                have hy := unhide HG (8 + 8 * i + k)
                have cy : wq.cell? ⟨b, o + (8 + 8 * i + k), none⟩ = some (.int .u8 (g (8 + 8 * i + k) : Nat)) := at_below (unhide HC (8 + 8 * i + k) (by have := unhide H7; omega)) (unhide QK)
                have EV := hide (show vn (fun k => g (8 + 8 * i + k)) (k + 1) = vn (fun k => g (8 + 8 * i + k)) k * 256 + g (8 + 8 * i + k) from rfl)
                obtain ⟨v, ev⟩ : ∃ v, vn (fun k => g (8 + 8 * i + k)) k = v := ⟨_, rfl⟩
                obtain ⟨y, ey⟩ : ∃ y, g (8 + 8 * i + k) = y := ⟨_, rfl⟩
                rw [ev] at hv EV ⊢
                rw [ey] at hy EV cy
                clear ev ey
                have hp : 8 + 8 * i + k < len := by have := unhide H7; omega
                go_wp2_with fail
                go_roundw
                case rel => exact ⟨trivial, k + 1, by go_num, by omega, by rw [unhide EV]; go_num⟩
                case measure => simp [intOf] <;> omega
              · have e8 : k = 8 := by omega
                subst e8
                have hv : vn (fun k => g (8 + 8 * i + k)) 8 < 18446744073709551616 := Nat.lt_of_lt_of_eq (vn_lt (fun i => unhide HG _) 8) (by decide)
                have EV := hide (show sg (vn (fun k => g (8 + 8 * i + k)) 8) = dV g i from rfl)
                obtain ⟨v, ev⟩ : ∃ v, vn (fun k => g (8 + 8 * i + k)) 8 = v := ⟨_, rfl⟩
                rw [ev] at hv EV ⊢
                clear ev
                have wv := sg_wrap v hv
                rw [unhide EV] at wv
                obtain ⟨x, ex⟩ : ∃ x, dV g i = x := ⟨_, rfl⟩
                rw [ex] at wv
                have EX := hide ex
                have AL := al_below wq (.cells #[.int .i64 x] 3)
                have VL := Vh.new wq 3 #[.int .i64 x] (fun _ => .int .i64 x) (by show 1 ≤ maxLen; decide) (fun i hi => by
                  have : i = 0 := by simp at hi; omega
                  subst this; rfl)
                have SL := hide (show Sr (wq.alloc (.cells #[.int .i64 x] 3)) (some ⟨wq.heap.size, 0, none⟩) 1 1 (fun _ => .int .i64 x) from Or.inr ⟨_, rfl, fun i hi => by rw [Addr.add_lit, Nat.zero_add]; exact VL.cell hi⟩)
                have OL := hide (own_kept (unhide QO) AL); have ZL := hide (show M + 1 ≤ (wq.alloc (.cells #[.int .i64 x] 3)).heap.size by have := unhide QS; have := AL.size; omega)
                have ML := hide ((unhide QM).below AL); have PA := hide ((unhide QA).below AL); have PB := hide ((unhide QB).below AL); have KL := hide ((unhide QK).trans (AL.mono (unhide QK).size))
                clear AL VL ex EV QM QO QA QB QS QK
                go_wp2_with (at_builtin; refine wpList_joinI _ rfl _ _ rfl (M + 1) (unhide ZL) _ i (rowV (iF (dV g)) i) rfl (unhide OL) (some ⟨wq.heap.size, 0, none⟩) 1 1 (fun _ => .int .i64 x) rfl (unhide SL) (fun i _ => rfl) (by omega) ?_)
                intro v5 w5 o5 k5
                rw [rowV_snoc (show iF (dV g) i = _ by unfold iF; rw [unhide EX])] at o5
                obtain ⟨a5, c5, rfl⟩ := owns_slice o5
                have m5 := (unhide ML).under k5 (by omega)
                clear c3 f3
                have c3 := m5.cell3; have f3 := m5.free 3
                have hsz := unhide SZ
                obtain ⟨w6, e6, m6, k6⟩ := m5.put3 (.slice a5 (i + 1) c5)
                have z5 := Nat.le_trans (unhide ZL) k5.size
                have K5 := (unhide KL).trans (k5.mono (by omega))
                have M6 := hide m6; have O6 := hide (own_keptz o5 k6 (by omega)); have A6 := hide (((unhide PA).under k5 (by omega)).kept k6 (by omega)); have B6 := hide (((unhide PB).under k5 (by omega)).kept k6 (by omega)); have Z6 := hide (Nat.le_trans z5 k6.size); have K6 := hide (below_of_kept K5 k6 (by omega) (by omega))
                have E6 := hide e6
                clear o5 k5 m5 e6 m6 k6 z5 K5 ML PA PB ZL KL OL SL
                go_wp2_with fail
                rw [← unhide E6]
                go_roundw
                case rel => exact ⟨i + 1, c5, a5, by go_num, by omega, unhide M6, unhide O6, unhide A6, unhide B6, unhide Z6, unhide K6⟩
                case measure => simp [intOf] <;> omega
          · have e7 : i = n := by omega
            subst e7
            clear c3 f3
            have mM := unhide QM
            have c0 := mM.cell0; have c1 := mM.cell1; have c2 := mM.cell2; have c3 := mM.cell3
            clear mM
            go_wp2_with fail
            refine (refWrong_any (x1 : Nat) (x2 : Nat) (dR g : Nat) at_ i c _).mono ?_
            rintro e w5 ⟨rfl, k5⟩
            clear c0 c1 c2 c3
            have mA := (unhide QA).below k5
            have a0 := mA.cell0; have a1 := mA.cell1; have a2 := mA.cell2; have a3 := mA.cell3; have f0 := mA.free 0; have f1 := mA.free 1; have f2 := mA.free 2; have f3 := mA.free 3
            have hsz := unhide SZ
            have K5 := hide ((unhide QK).trans (k5.mono (unhide QK).size))
            by_cases hE : wrongM (x1 : Nat) (x2 : Nat) (dR g : Nat) i = 0
            · have EE := hide hE
              rw [hE]
              have mM := (unhide QM).below k5
              have c0 := mM.cell0; have c1 := mM.cell1; have c2 := mM.cell2; have c3 := mM.cell3
              obtain ⟨w6, e6, m6, k6⟩ := mA.put (x1 : Nat) (x2 : Nat) (dR g : Nat) (.slice at_ i c)
              have p0 := m6.cell0; have p1 := m6.cell1; have p2 := m6.cell2; have p3 := m6.cell3
              have O6 := hide (own_keptz (own_kept (unhide QO) k5) k6 (by omega)); have K6 := hide (below_of_kept (unhide K5) k6 (Nat.le_refl _) (unhide K5).size); have E6 := hide e6
              clear k5 mA mM e6 m6 k6 hE
              go_wp2_with fail
              rw [← unhide E6]
              clear c0 c1 c2 c3 a0 a1 a2 a3 f0 f1 f2 f3
              refine bodyPost_ret (v := .tuple #[msV (x1 : Nat) (x2 : Nat) (dR g : Nat) (.slice at_ i c), .int .i64 0]) (by simp [results, Tryz.results42, go_sem, msV, p0, p1, p2, p3]) rfl ⟨0, .slice at_ i c, ?_, ?_, ?_, unhide K6⟩
              · rw [unhide EX1, unhide EX2, unhide EN, unhide EE]
              · rw [unhide EX1, unhide EX2]; rfl
              · rw [show dN 0 (g 7) = i from unhide EN]
                exact own_base (unhide O6) (by omega)
            · obtain ⟨x, ex⟩ : ∃ x, wrongM (x1 : Nat) (x2 : Nat) (dR g : Nat) i = x := ⟨_, rfl⟩
              have EE := hide ex
              rw [ex] at hE ⊢
              have tx : (x != 0) = true := by simp [hE]
              have mB := (unhide QB).below k5
              have c0 := mB.cell0; have c1 := mB.cell1; have c2 := mB.cell2; have c3 := mB.cell3
              obtain ⟨w6, e6, m6, k6⟩ := mA.put 0 0 0 (.slice none 0 0)
              have p0 := m6.cell0; have p1 := m6.cell1; have p2 := m6.cell2; have p3 := m6.cell3
              have K6 := hide (below_of_kept (unhide K5) k6 (Nat.le_refl _) (unhide K5).size); have E6 := hide e6
              clear k5 mA mB e6 m6 k6 ex
              go_wp2_with fail
              rw [← unhide E6]
              clear c0 c1 c2 c3 a0 a1 a2 a3 f0 f1 f2 f3
              have HE := hide hE
              clear hE tx
              refine bodyPost_ret (v := .tuple #[msV 0 0 0 (.slice none 0 0), .int .i64 x]) (by simp [results, Tryz.results42, go_sem, msV, p0, p1, p2, p3]) rfl ⟨x, .slice none 0 0, ?_, ?_, ?_, unhide K6⟩
              · rw [unhide EX1, unhide EX2, unhide EN, unhide EE]
              · unfold dN; rw [if_neg (unhide HE), if_neg (unhide HE), if_neg (unhide HE)]; rfl
              · unfold dN; rw [if_neg (unhide HE)]; exact World.ownsRow_nil _ _ _ _

theorem refDecode_ok : DcOK 42 := by
  intro ao len cap g w hg hl hcap hs
  have hr := hs.rd
  have z : ∀ E : Int, E ≠ 0 → msV (dN E (g 1) : Nat) (dN E (g 2) : Nat) (dN E (dR g) : Nat) (.slice none 0 0) = msV 0 0 0 (.slice none 0 0) := fun E h => by unfold dN; rw [if_neg h, if_neg h, if_neg h]; rfl
  have y : ∀ (E : Int) (w' : World), E ≠ 0 → w'.ownsRow w.heap.size 3 1 (.slice none 0 0) (dN E (g 7)) (rowV (iF (dV g)) (dN E (g 7))) := fun E w' h => by unfold dN; rw [if_neg h]; exact World.ownsRow_nil _ _ _ _
  by_cases h1 : 220 < len
  · refine (refDecode_long ao len cap w h1).mono ?_
    rintro e w' ⟨rfl, k⟩
    exact ⟨1, _, Or.inl ⟨h1, rfl⟩, by rw [z 1 (by decide)], y 1 w' (by decide), k⟩
  · by_cases h2 : len < 12
    · refine (refDecode_short ao len cap w h2).mono ?_
      rintro e w' ⟨rfl, k⟩
      exact ⟨2, _, Or.inr (Or.inl ⟨by omega, Or.inl h2, rfl⟩), by rw [z 2 (by decide)], y 2 w' (by decide), k⟩
    · by_cases h3 : g 0 = 87
      · by_cases h4 : opG g len
        · by_cases h5 : 24 < g 7
          · refine (refDecode_full ao len cap g w hg hcap (by omega) (by omega) hr h3 h4 h5).mono ?_
            rintro e w' ⟨rfl, k⟩
            exact ⟨6, _, Or.inr (Or.inr ⟨by omega, by omega, h3, Or.inr ⟨h4, Or.inl ⟨h5, rfl⟩⟩⟩), by rw [z 6 (by decide)], y 6 w' (by decide), k⟩
          · by_cases h6 : len = 12 + 8 * g 7
            · refine (refDecode_all ao len cap g w hg hcap (by omega) (by omega) hr h3 h4 (by omega) h6).mono ?_
              rintro e w' ⟨E, v, hE, rfl, o, k⟩
              exact ⟨E, v, Or.inr (Or.inr ⟨by omega, by omega, h3, Or.inr ⟨h4, Or.inr ⟨by omega, Or.inr ⟨h6, hE⟩⟩⟩⟩), rfl, o, k⟩
            · refine (refDecode_count ao len cap g w hg hcap (by omega) (by omega) hr h3 h4 (by omega) h6).mono ?_
              rintro e w' ⟨rfl, k⟩
              exact ⟨2, _, Or.inr (Or.inr ⟨by omega, by omega, h3, Or.inr ⟨h4, Or.inr ⟨by omega, Or.inl ⟨h6, rfl⟩⟩⟩⟩), by rw [z 2 (by decide)], y 2 w' (by decide), k⟩
        · refine (refDecode_sum ao len cap g w hg hcap (by omega) (by omega) hr h3 h4).mono ?_
          rintro e w' ⟨rfl, k⟩
          exact ⟨5, _, Or.inr (Or.inr ⟨by omega, by omega, h3, Or.inl ⟨h4, rfl⟩⟩), by rw [z 5 (by decide)], y 5 w' (by decide), k⟩
      · refine (refDecode_form ao len cap g w (by omega) (by omega) hr h3).mono ?_
        rintro e w' ⟨rfl, k⟩
        exact ⟨2, _, Or.inr (Or.inl ⟨by omega, Or.inr h3, rfl⟩), by rw [z 2 (by decide)], y 2 w' (by decide), k⟩

end Go.Proofs.YthimcecbgpamdaaGreat
