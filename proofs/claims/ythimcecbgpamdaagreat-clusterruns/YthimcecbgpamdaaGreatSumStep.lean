/- Contracts of package sum: step, steps. -/
import Derived.Test.YthimcecbgpamdaaGreatNear168
import Derived.Test.YthimcecbgpamdaaGreatNear149
import Derived.Laws.BitsAllLaws
import Derived.Deep.WholeRow
namespace Go.Proofs.YthimcecbgpamdaaGreat
open Go.RowKit

theorem u32_low (r : Nat) (h : r < 4294967296) : bits .and .u32 (r : Int) 1 = ((r % 2 : Nat) : Int) := by
  have := u32_and_nat r 1 h (by omega)
  rw [nat_mask1] at this
  exact this
theorem u32_poly (r : Nat) (h : r < 4294967296) : bits .xor .u32 (r : Int) 3988292384 = ((r ^^^ 3988292384 : Nat) : Int) := u32_xor_nat r 3988292384 h (by omega)

theorem cstep_any (r : Nat) (h : r < 4294967296) (w : World) : Calls Tryz.prog 182 #[.int .u32 (r : Int)] w fun e w' => e = .returned (.int .u32 (cS r : Nat)) ∧ w' = w := by
  have t := u32_low r h
  by_cases h2 : r % 2 = 0
  · have e1 : Hid (cS r = r / 2) := by unfold cS; exact if_pos h2
    rw [h2] at t
    go_enter Tryz.func182, Tryz.ntmps182
    go_wp2
    go_ret
    exact ⟨by rw [unhide e1]; go_num, rfl⟩
  · have h3 : r % 2 = 1 := by omega
    have e1 : Hid (cS r = r / 2 ^^^ 3988292384) := by unfold cS; exact if_neg h2
    have p := u32_poly (r / 2) (by omega)
    rw [h3] at t
    have p2 : bits .xor .u32 ((r : Int) / 2) 3988292384 = ((r / 2 ^^^ 3988292384 : Nat) : Int) := by rw [← p]; congr 1
    go_enter Tryz.func182, Tryz.ntmps182
    go_wp2
    go_ret
    exact ⟨by rw [unhide e1]; first | exact congrArg (fun z => Exit.returned (Value.int .u32 z)) p2 | go_num, rfl⟩

/-- The table. -/
def tabF (j : Nat) : Value := .int .u32 (cN 8 j : Nat)
/-- The table as far as it is made. -/
def tabT (i : Nat) (j : Nat) : Value := if j < i then tabF j else .int .u32 0
def tabZ : Array Value := Array.replicate 256 (.int .u32 0)
theorem info33 : (Tryz.prog.info? 206).map (fun i => (i.zero, i.size)) = some (some (.agg tabZ), 256) := by kernel_rfl
theorem tabT_step (i : Nat) : stW (tabT i) i (tabF i) = tabT (i + 1) := by grind [tabT, stW_same, stW_other]
theorem cN_succ (n x : Nat) : cN (n + 1) x = cS (cN n x) := by rw [cN_add]; rfl

/-- A whole array stored. -/
theorem store_all (P : Program) (g : Nat) (t : TypeId) (old T : Array Value) (w : World) (hg : w.heap[g]? = some (.cells old t (0, 0))) (hs : old.size = T.size) (h1 : T.all (·.oneCell') = true) :
    (storeCells ⟨g, 0, none⟩ T.toList).run P w = .ok () (w.setRow g T) := by
  have := run_storeCells_from (P := P) g t T.toList 0 old w hg (by simp; omega) (fun v hv => (Array.all_eq_true_iff_forall_mem.1 h1) v (by simpa using hv))
  simpa using this

set_option maxRecDepth 100000 in
set_option maxHeartbeats 1000000 in
theorem steps_any (w : World) : Calls Tryz.prog 154 #[] w fun e w' => e = .returned (.agg (rowV tabF 256).toArray) ∧ Below w.heap.size w w' := by
  obtain ⟨z33, s33⟩ := zero_of_info info33
  obtain ⟨Z, eZ⟩ : ∃ Z, Z = tabZ := ⟨_, rfl⟩
  have EZ := hide eZ
  rw [← eZ] at z33
  clear eZ
  have S33 := hide s33
  clear s33
  have hZ : Z.size = 256 := by rw [unhide EZ]; simp [tabZ]
  have hB : Below w.heap.size w ((w.alloc (Obj.cells Z 206)).alloc (Obj.cells Z 206)) := ((Below.refl _ _).alloc (Nat.le_refl _) _).alloc (by rw [al_size]; omega) _
  have h0 : ((w.alloc (Obj.cells Z 206)).alloc (Obj.cells Z 206)).heap[w.heap.size]? = some (.cells Z 206 (0, 0)) := heap_alloc2_old w _ _
  have h1 : Vh 206 ((w.alloc (Obj.cells Z 206)).alloc (Obj.cells Z 206)) (w.heap.size + 1) 256 256 (tabT 0) :=
    ⟨Z, heap_alloc2_new w _ _, hZ, Nat.le_refl _, by unfold maxLen; omega, fun i hi => by rw [unhide EZ]; simp [tabZ, tabT, hi]⟩
  have B0 := hide hB; have H0 := hide h0; have H1 := hide h1; have HZ := hide hZ
  clear hB h0 h1 hZ
  go_enter Tryz.func154, Tryz.ntmps154
  go_wp2_with fail
  go_loopw [4] (fun is wr => ∃ i : Nat, is = .int .i64 i ∧ i ≤ 256 ∧ Vh 206 wr (w.heap.size + 1) 256 256 (tabT i) ∧ wr.heap[w.heap.size]? = some (.cells Z 206 (0, 0)) ∧ Below w.heap.size w wr) (fun is _ => 256 - (intOf is).toNat)
  case atStart => exact ⟨0, rfl, Nat.zero_le _, unhide H1, unhide H0, unhide B0⟩
  case round =>
    obtain ⟨i, rfl, hi, hV, hz, hK⟩ := hrel
    clear B0 H0 H1 z33
    have V := hide hV; have HZ0 := hide hz; have KK := hide hK
    clear hV hz hK
    by_cases hin : i < 256
    · have hin2 : (i : Int) < 256 := by omega
      have ew : IntKind.u32.wrap (i : Int) = ((cN 0 i : Nat) : Int) := by rw [IntKind.wrap_u32']; show (i : Int) % 4294967296 = i; omega
      go_wp2_with fail
      try rw [ew]
      go_loop [3, 9] (fun rs ks => ∃ k : Nat, ks = .int .i64 k ∧ k ≤ 8 ∧ rs = .int .u32 (cN k i : Nat)) (fun _ ks => 8 - (intOf ks).toNat)
      case atStart => exact ⟨0, rfl, Nat.zero_le _, rfl⟩
      case round =>
        obtain ⟨k, rfl, hk, rfl⟩ := hrel
        have hlt : cN k i < 4294967296 := cN_lt (by omega)
        obtain ⟨x, ex⟩ : ∃ x, x = cN k i := ⟨_, rfl⟩
        rw [← ex] at hlt ⊢
        have EX := hide ex
        clear ex ew
        by_cases hk8 : k < 8
        · go_wp2_with fail
          refine (cstep_any x hlt _).mono ?_
          rintro e w1 ⟨rfl, rfl⟩
          go_wp2_with fail
          go_round
          case rel => exact ⟨k + 1, by go_num, by omega, by rw [cN_succ, ← unhide EX]⟩
          case measure => simp [intOf]; omega
        · have e8 : k = 8 := by omega
          subst e8
          have f1 := (unhide V).free i
          have l1 : (_ : World).cell? ⟨w.heap.size + 1, i, none⟩ = some (tabT i i) := (unhide V).cell hin
          go_wp2_with fail
          go_roundw
          case rel => exact ⟨i + 1, by go_num, by omega, by rw [← tabT_step i]; have := (unhide V).set i (tabF i); unfold tabF at this ⊢; rw [← unhide EX] at this ⊢; exact this, by rw [heap_setCell_other _ _ _ _ (by show w.heap.size ≠ w.heap.size + 1; omega)]; exact unhide HZ0, below_of_kept (unhide KK) (kept_set _ _ _ _) (by omega) (unhide KK).size⟩
          case measure => simp [intOf]; omega
    · have e6 : i = 256 := by omega
      subst e6
      go_wp2_with fail
      obtain ⟨T, eT⟩ : ∃ T : Array Value, T = (rowV tabF 256).toArray := ⟨_, rfl⟩
      have hT : wr.heap[w.heap.size + 1]? = some (.cells T 206 (0, 0)) := by
        rw [(unhide V).whole, eT]
        exact congrArg (fun l : List Value => some (Obj.cells l.toArray 206 (0, 0))) (rowV_congr (l := 256) (fun i hi => by unfold tabT; rw [if_pos hi]))
      have sT : T.size = 256 := by rw [eT]; simp [rowV_length]
      have oT : T.all (·.oneCell') = true := by rw [eT]; rw [Array.all_eq_true_iff_forall_mem]; intro u hu; exact rowV_one tabF 256 (fun i _ => rfl) u (by simpa using hu)
      have ET := hide eT
      clear eT
      have st := store_all Tryz.prog w.heap.size 206 Z T wr (unhide HZ0) (by rw [unhide HZ, sT]) oT
      refine wp_load_row 206 (.tmp 1) rfl (w.heap.size + 1) rfl 206 T (0, 0) _ hT Tryz.underlying206 rfl (by rw [unhide S33, sT]) ?_
      have HT := hide hT
      clear hT oT
      go_wp2_with fail
      have h3 : (wr.setRow w.heap.size T).heap[w.heap.size]? = some (.cells T 206 (0, 0)) := setRow_heap wr _ _ _ _ _ (unhide HZ0)
      have k3 : Below w.heap.size w (wr.setRow w.heap.size T) := (unhide KK).trans ⟨rfl, rfl, rfl, by simp, fun k hk => setRow_other _ _ _ _ (by omega)⟩
      have H3 := hide h3; have K3 := hide k3
      refine bodyPost_ret (v := .agg T) ?_ rfl ⟨by rw [unhide ET], unhide K3⟩
      exact results_cell_row Tryz.results154 _ _ w.heap.size 206 T (0, 0) _ rfl (unhide H3) Tryz.underlying206 rfl (by rw [unhide S33, sT])

end Go.Proofs.YthimcecbgpamdaaGreat
