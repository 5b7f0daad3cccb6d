/- Joined: NodOps4, NodBld, NodTun, RefMem. -/
import Derived.Test.YtngmeaaglogieabNear9
import Derived.Test.YtngmeaaglogieabMemOK
namespace Go.Proofs.Ytngmeaaglogieab
open Go.RowKit

theorem manyVd : Many Try.prog 35 3 := Many.of _ Try.underlying35 rfl (by kernel_rfl)
theorem manyB4 : Many Try.prog 27 4 := Many.of _ Try.underlying27 rfl (by kernel_rfl)
theorem zero4i (w : World) : (zeroValue 28).run Try.prog w = .ok (agV (fun _ => iV 0) 0 4) w := by kernel_rfl
theorem zeroRol (w : World) : (zeroValue 30).run Try.prog w = .ok (agV (nrlF zeroR) 0 12) w := by kernel_rfl
section
variable {f : Operand → Value} {o : Oper}
theorem run_ext3A (x : Operand) (ho : o.op = .extract x 0) {u v s : Value} (hx : f x = .tuple #[u, v, s]) (w : World) : (execOp f o).run Try.prog w = .ok (.value u) w := by
  unfold execOp
  rw [ho]
  dsimp only
  rw [hx]
  rfl
theorem run_ext3B (x : Operand) (ho : o.op = .extract x 1) {u v s : Value} (hx : f x = .tuple #[u, v, s]) (w : World) : (execOp f o).run Try.prog w = .ok (.value v) w := by
  unfold execOp
  rw [ho]
  dsimp only
  rw [hx]
  rfl
theorem run_ext3C (x : Operand) (ho : o.op = .extract x 2) {u v s : Value} (hx : f x = .tuple #[u, v, s]) (w : World) : (execOp f o).run Try.prog w = .ok (.value s) w := by
  unfold execOp
  rw [ho]
  dsimp only
  rw [hx]
  rfl
theorem run_eqlE {b : Bool} (x y : Operand) (ho : o.op = .binOp .eql 65 x y 65) {u v : Int} (hx : f x = .int .i64 u) (hy : f y = .int .i64 v) (hb : decide (u = v) = b) (w : World) : (execOp f o).run Try.prog w = .ok (.value (.bool b)) w := by
  have e : (u == v) = b := by rw [← hb, Bool.eq_iff_iff]; simp
  unfold execOp
  rw [ho]
  dsimp only
  rw [hx, hy]
  go_simp
end
theorem ndF_inR (n : Nd) (v : Value) : ∀ j, j < 4 → ndF n v (0 + 27 + 0 + j) = tF n.rl.I j := by
  intro j hj
  have := ndF_in n v hj
  rwa [Nat.mul_one] at this
theorem ndF_rl (n : Nd) (v : Value) : ∀ j, j < 12 → ndF n v (0 + 27 + j) = nrlF n.rl j := by
  intro j hj
  unfold ndF
  rw [if_neg (by omega), if_neg (by omega), if_neg (by omega), if_pos (by omega), show 0 + 27 + j - 27 = j by omega]
theorem ndF_he (n : Nd) (v : Value) {i : Nat} (hi : i < 4) : ndF n v (0 + 51 + i * 1) = .int .i64 (n.he i) := by
  unfold ndF
  rw [if_neg (by omega), if_neg (by omega), if_neg (by omega), if_neg (by omega), if_neg (by omega), if_pos (by omega), show 0 + 51 + i * 1 - 51 = i by omega]
  rfl
/-- A verdict's three cells. -/
def nvdF (x : Int) (b : Bool) (u : Value) (i : Nat) : Value := if i = 0 then iV x else if i = 1 then .bool b else u
theorem ndF_vd (n : Nd) (v : Value) : ∀ j, j < 3 → ndF n v (0 + 71 + j) = nvdF n.vX n.vS v j := by
  intro j hj
  match j, hj with
  | 0, _ => rfl
  | 1, _ => rfl
  | 2, _ => rfl
theorem nrlF_one (r : Rl) : ∀ j, j < 12 → (nrlF r j).oneCell' = true := by
  intro j _
  unfold nrlF iV
  repeat' split
  all_goals rfl
theorem nvdF_one (x : Int) (b : Bool) (ao : Option Addr) (n c : Nat) : ∀ j, j < 3 → (nvdF x b (.slice ao n c) j).oneCell' = true := by
  intro j _
  unfold nvdF iV
  repeat' split
  all_goals rfl
theorem stP_all12 (g : Nat → Value) (h : Nat → Value) : ∀ j, j < 12 → stP g 0 12 h j = h j := fun j hj => by
  have := stP_in g (o := 0) (n := 12) h hj
  rwa [Nat.zero_add] at this

end Go.Proofs.Ytngmeaaglogieab

namespace Go.Proofs.Ytngmeaaglogieab
open Go.RowKit

section
variable {f : Operand → Value} {o : Oper}
theorem run_bldN0 (ho : o.op = .build 37 #[]) (w : World) : (execOp f o).run Try.prog w = .ok (.value (agV (ndF zeroN (.slice none 0 0)) 0 74)) w := by
  unfold execOp
  rw [ho]
  go_simp
  kernel_rfl
theorem run_bldN (a b c : Operand) (ho : o.op = .build 37 #[(0, a), (2, b), (4, c)]) {id : Int} {t : Tn} {r : Rl} (h0 : f a = .int .i64 id) (h1 : f b = agV (ntnF t) 0 4) (h2 : f c = rollV r) (w : World) :
    (execOp f o).run Try.prog w = .ok (.value (agV (ndF { zeroN with id := id, tn := t, rl := r } (.slice none 0 0)) 0 74)) w := by
  have h1' : f b = .agg #[.int .i64 t.Dt, .int .i64 t.Q, .int .i64 t.R, .int .i64 t.G] := h1
  unfold rollV at h2
  unfold execOp
  rw [ho]
  simp only [List.map_toArray, List.map_cons, List.map_nil]
  rw [h0, h1', h2]
  clear h0 h1 h1' h2 ho
  change _ = _
  kernel_rfl
end
theorem refBegS_any (w : World) : Calls Try.prog 27 #[.int .i64 0] w fun e w' => e = .returned (agV (nstF St.beg0) 0 7) ∧ Below w.heap.size w w' := by
  go_enter Try.func27, Try.ntmps27
  go_wp2_with fail
  refine bodyPost_ret (v := agV (nstF St.beg0) 0 7) (by simp [results, Try.results27, go_sem]; rfl) rfl ⟨rfl, ?_⟩
  exact ((Below.refl _ _).alloc (Nat.le_refl _) _).alloc (by rw [al_size]; omega) _

end Go.Proofs.Ytngmeaaglogieab

namespace Go.Proofs.Ytngmeaaglogieab
open Go.RowKit

theorem manyTn : Many Try.prog 23 4 := Many.of _ Try.underlying23 rfl (by kernel_rfl)
theorem ndF_tn (n : Nd) (v : Value) : ∀ j, j < 4 → ndF n v (0 + 2 + j) = ntnF n.tn j := by
  intro j hj
  unfold ndF
  rw [if_neg (by omega), if_pos (by omega), show 0 + 2 + j - 2 = j by omega]

end Go.Proofs.Ytngmeaaglogieab

namespace Go.Proofs.Ytngmeaaglogieab
open Go.RowKit

theorem refBegin_ok : BgOK 26 := by
  intro w
  obtain ⟨w1, e1, m1, k1, z1⟩ := r_alloc w zeroR
  have E1 := hide e1; have M1 := hide m1; have K1 := hide k1
  clear e1 m1 k1 z1
  go_enter Try.func26, Try.ntmps26
  unfold zeroR at E1
  dsimp only at E1
  go_wp2_with (refine wpList_storeRl _ rfl (.tmp 0) (.tmp 2) rfl rfl (r := beginR) rfl (by rw [← unhide E1]; exact unhide M1) rfl ?_)
  intro w5 m5 k5
  rw [← unhide E1] at k5
  have K5 := hide (below_of_kept (unhide K1) k5 (Nat.le_refl _) (unhide K1).size)
  clear k5
  go_wp2_with fail
  have p0 := m5.inn (i := 0) (by omega)
  have p1 := m5.inn (i := 1) (by omega)
  have p2 := m5.inn (i := 2) (by omega)
  have p3 := m5.inn (i := 3) (by omega)
  have p4 := m5.mis (i := 0) (by omega)
  have p5 := m5.mis (i := 1) (by omega)
  have p6 := m5.mis (i := 2) (by omega)
  have p7 := m5.mis (i := 3) (by omega)
  have p8 := m5.joi (i := 0) (by omega)
  have p9 := m5.joi (i := 1) (by omega)
  have p10 := m5.joi (i := 2) (by omega)
  have p11 := m5.joi (i := 3) (by omega)
  refine bodyPost_ret (v := rollV beginR) (by unfold rollV; simp [results, Try.results26, go_sem, p0, p1, p2, p3, p4, p5, p6, p7, p8, p9, p10, p11]) rfl ⟨rfl, unhide K5⟩

set_option maxHeartbeats 2000000 in
theorem refGood_ok : GrOK 25 := by
  intro r w _
  obtain ⟨w1, e1, m1, k1, z1⟩ := r_alloc w r
  have E1 := hide e1; have M1 := hide m1; have K1 := hide k1
  clear e1 m1 k1 z1
  unfold rollV
  go_enter Try.func25, Try.ntmps25
  go_wp2_with fail
  rw [← unhide E1]
  go_loopw [3] (fun is wr => w1 = wr ∧ ∃ i : Nat, is = .int .i64 i ∧ i ≤ 4 ∧ ∀ j, j < i → gd r j = true) (fun is _ => 4 - (intOf is).toNat)
  case atStart => exact ⟨rfl, 0, rfl, by omega, fun j h => absurd h (by omega)⟩
  case round =>
    obtain ⟨rfl, i, rfl, hi, hg⟩ := hrel
    have HG := hide hg
    clear hg
    by_cases hin : i < 4
    · have hin' : (i : Int) < 4 := by omega
      have ci := (unhide M1).inn hin; have cm := (unhide M1).mis hin; have cj := (unhide M1).joi hin
      have NX := hide (fun h : gd r i = true => show ∀ j, j < i + 1 → gd r j = true from fun j hj => by
        by_cases e : j = i
        · rw [e]; exact h
        · exact unhide HG j (by omega))
      cases hb : r.I i with
      | true =>
        have G := hide (gd_in hb)
        rw [hb] at ci
        obtain ⟨m, em⟩ : ∃ m, r.M i = m := ⟨_, rfl⟩
        obtain ⟨t, et⟩ : ∃ t, r.J i = t := ⟨_, rfl⟩
        rw [em] at cm G
        rw [et] at cj G
        clear em et hb
        by_cases h1 : m < 0
        · have N := hide (show gdA r = false from gdA_no hin (by cases e : gd r i with | false => rfl | true => have := (unhide G).1 e; omega))
          have d1 : decide (m < 0) = true := decide_eq_true h1
          go_wp2_with fail
          go_ret
          exact ⟨by rw [unhide N]; rfl, unhide K1⟩
        · have d1 : decide (m < 0) = false := decide_eq_false h1
          by_cases h2 : 2 < m
          · have N := hide (show gdA r = false from gdA_no hin (by cases e : gd r i with | false => rfl | true => have := (unhide G).1 e; omega))
            have d2 : decide (2 < m) = true := decide_eq_true h2
            go_wp2_with fail
            go_ret
            exact ⟨by rw [unhide N]; rfl, unhide K1⟩
          · have d2 : decide (2 < m) = false := decide_eq_false h2
            by_cases h3 : t = 0
            · have Y := hide (unhide NX ((unhide G).2 ⟨by omega, by omega, h3⟩))
              subst h3
              go_wp2_with fail
              go_roundw
              case rel => exact ⟨trivial, i + 1, by go_num, by omega, unhide Y⟩
              case measure => simp [intOf] <;> omega
            · have N := hide (show gdA r = false from gdA_no hin (by cases e : gd r i with | false => rfl | true => have := (unhide G).1 e; omega))
              have d3 : (t != 0) = true := by simp [h3]
              go_wp2_with fail
              go_ret
              exact ⟨by rw [unhide N]; rfl, unhide K1⟩
      | false =>
        have G := hide (gd_out hb)
        rw [hb] at ci
        obtain ⟨m, em⟩ : ∃ m, r.M i = m := ⟨_, rfl⟩
        obtain ⟨t, et⟩ : ∃ t, r.J i = t := ⟨_, rfl⟩
        rw [em] at cm G
        rw [et] at cj G
        clear em et hb
        by_cases h1 : m = 0
        · subst h1
          by_cases h2 : t < 0
          · have N := hide (show gdA r = false from gdA_no hin (by cases e : gd r i with | false => rfl | true => have := (unhide G).1 e; omega))
            have d2 : decide (t < 0) = true := decide_eq_true h2
            go_wp2_with fail
            go_ret
            exact ⟨by rw [unhide N]; rfl, unhide K1⟩
          · have d2 : decide (t < 0) = false := decide_eq_false h2
            by_cases h3 : 3 ≤ t
            · have N := hide (show gdA r = false from gdA_no hin (by cases e : gd r i with | false => rfl | true => have := (unhide G).1 e; omega))
              have d3 : decide (3 ≤ t) = true := decide_eq_true h3
              go_wp2_with fail
              go_ret
              exact ⟨by rw [unhide N]; rfl, unhide K1⟩
            · have Y := hide (unhide NX ((unhide G).2 ⟨rfl, by omega, by omega⟩))
              have d3 : decide (3 ≤ t) = false := decide_eq_false h3
              go_wp2_with fail
              go_roundw
              case rel => exact ⟨trivial, i + 1, by go_num, by omega, unhide Y⟩
              case measure => simp [intOf] <;> omega
        · have N := hide (show gdA r = false from gdA_no hin (by cases e : gd r i with | false => rfl | true => have := (unhide G).1 e; omega))
          have d1 : (m != 0) = true := by simp [h1]
          go_wp2_with fail
          go_ret
          exact ⟨by rw [unhide N]; rfl, unhide K1⟩
    · have e9 : i = 4 := by omega
      subst e9
      rw [show ((4 : Nat) : Int) = 4 from rfl]
      go_wp2_with fail
      go_ret
      exact ⟨by rw [gdA_iff.2 (unhide HG)]; rfl, unhide K1⟩

end Go.Proofs.Ytngmeaaglogieab
