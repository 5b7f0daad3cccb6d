/- Contracts of the reference: More, Sum. -/
import Derived.Test.YtngmeaaglogieaaGreatSumBits
import Derived.Test.YtngmeaaglogieaaGreatNear59
namespace Go.Proofs.YtngmeaaglogieaaGreat
open Go.RowKit

/-- The register at the loop's place k while it is filled. -/
def filF (s : Int) (k j : Nat) : Value := if j < k then rB (bgS s) j else .int .i64 0
theorem filF_step (s : Int) (k : Nat) : stW (filF s k) k (rB (bgS s) k) = filF s (k + 1) := by
  funext j
  by_cases e : j = k
  · subst e; rw [stW_same]; unfold filF; rw [if_pos (by omega)]
  · rw [stW_other _ _ e]; unfold filF
    by_cases h : j < k
    · rw [if_pos h, if_pos (by omega)]
    · rw [if_neg h, if_neg (by omega)]
def nil32 : Array Value := Array.replicate 32 (.int .i64 0)
/-- While the register is combined. -/
def mixF (r k j : Nat) : Value := if j < k then rB (r ^^^ 3988292384) j else rB r j
theorem mixF_step (r k : Nat) : stW (mixF r k) k (rB (r ^^^ 3988292384) k) = mixF r (k + 1) := by
  funext j
  by_cases e : j = k
  · subst e; rw [stW_same]; unfold mixF; rw [if_pos (by omega)]
  · rw [stW_other _ _ e]; unfold mixF
    by_cases h : j < k
    · rw [if_pos h, if_pos (by omega)]
    · rw [if_neg h, if_neg (by omega)]

theorem infoI : (Tryz.prog.info? 3).map (·.size) = some 1 := by kernel_rfl
/-- The register moved down by one. -/
def dwF (x i : Nat) : Value := if i < 31 then rB x (i + 1) else rB x i
theorem wp_down (w : World) {o : Oper} {a : Act} {K : Act → World → Prop} {Q : Exit → Act → World → Prop} (d s : Operand)
    (ho : o.op = .call { callee := .builtin .copy, args := #[d, s], argTypes := #[39, 39] }) (b x : Nat)
    (hd : a.eval d = .slice (some ⟨b, 0, none⟩) 32 32) (hs : a.eval s = .slice (some ⟨b, 1, none⟩) 31 31) (hv : Vh 126 w b 32 32 (rB x))
    (h : ∀ w', Vh 126 w' b 32 32 (dwF x) → Kept b w w' → K (a.put o.dst (goInt 31)) w') : o.wp Tryz.prog a w K Q := by
  have hrow := hv.whole
  have hrun := run_copy_row (P := Tryz.prog) w 39 39 o.type 3 b 0 32 32 ⟨b, 1, none⟩ 31 31 _ 126 (rowV (fun i => rB x (i + 1)) 31) Tryz.underlying39 infoI hrow (by rw [rowV_length]; decide)
    (fun j u hj => by
      rw [Addr.add_lit]
      rcases Nat.lt_or_ge j 31 with h2 | h2
      · rw [rowV_at _ h2] at hj; cases hj
        rw [Nat.add_comm 1 j]; exact hv.cell (by omega)
      · rw [rowV_none _ h2] at hj; cases hj) (by rw [rowV_length]; simp) (rowV_one _ _ (fun _ _ => rfl))
  rw [rowV_length] at hrun
  have e : ((rowV (rB x) 32).take 0 ++ rowV (fun i => rB x (i + 1)) 31 ++ (rowV (rB x) 32).drop (0 + 31)) = rowV (dwF x) 32 := by
    apply List.ext_getElem?
    intro i
    rw [List.take_zero, List.nil_append]
    rcases Nat.lt_or_ge i 31 with h2 | h2
    · rw [List.getElem?_append_left (by rw [rowV_length]; exact h2), rowV_at _ h2, rowV_at _ (by omega)]; unfold dwF; rw [if_pos h2]
    · rw [List.getElem?_append_right (by rw [rowV_length]; exact h2), rowV_length, List.getElem?_drop]
      rcases Nat.lt_or_ge i 32 with h3 | h3
      · obtain rfl : i = 31 := by omega
        rw [rowV_at _ (by omega), rowV_at _ (by omega)]; rfl
      · rw [rowV_none _ (by omega), rowV_none _ h3]
  have e2 : (((List.range 32).map (rB x)).toArray.toList.take 0 ++ rowV (fun i => rB x (i + 1)) 31 ++ ((List.range 32).map (rB x)).toArray.toList.drop (0 + 31)) = rowV (dwF x) 32 := e
  rw [e2] at hrun
  have hh := h _ (Vh.of_row (dwF x) 32 (by unfold maxLen; omega) (setRow_heap w b _ (rowV (dwF x) 32).toArray 126 (0, 0) hrow)) ⟨rfl, rfl, rfl, by simp, fun k _ hn => setRow_other w b k _ hn⟩
  unfold Oper.wp execOp
  simp only [ho, resolve, invoke, builtin, Sem.run_bind, Sem.run_pure, Result.andThen_ok, List.map_toArray, List.map_cons, List.map_nil, hd, hs, hrun]
  exact hh
theorem dn_set {w : World} {b x : Nat} (hx : x < 4294967296) (h : Vh 126 w b 32 32 (dwF x)) : Vh 126 (w.setCell ⟨b, 31, none⟩ (.int .i64 0)) b 32 32 (rB (x / 2)) := by
  refine (h.set 31 (.int .i64 0)).congr (fun i hi => ?_)
  by_cases e : i = 31
  · subst e; rw [stW_same]; unfold rB; rw [bT_half, bT_high (by omega)]; rfl
  · rw [stW_other _ _ e]; unfold dwF; rw [if_pos (by omega)]; unfold rB; rw [bT_half]

set_option maxRecDepth 100000 in
set_option maxHeartbeats 2000000 in
theorem refMore_any (s : Int) (hs : R64 s) (ao : Option Addr) (len cap : Nat) (g : Nat → Nat) (w : World) (hg : ∀ i, g i < 256) (hl : len ≤ 9223372036854775807) (hr : Rd w ao len (bF g)) :
    Calls Tryz.prog 67 #[.int .i64 s, .slice ao len cap] w fun e w' => e = .returned (.int .i64 (moreN s g len : Nat)) ∧ Below w.heap.size w w' := by
  have HR := hide hr; have HG := hide hg
  obtain ⟨s1, s2⟩ := hs
  clear hr hg
  go_enter Tryz.func67, Tryz.ntmps67
  go_wp2_with fail
  have hV : Vh 126 (w.alloc (.cells nil32 126)) w.heap.size 32 32 (filF s 0) :=
    ⟨nil32, heap_alloc_new _ _, by simp [nil32], Nat.le_refl _, by unfold maxLen; omega, fun i hi => by simp [nil32, filF, hi]⟩
  have hB := al_below w (.cells nil32 126)
  unfold nil32 at hV hB
  simp only [Array.replicate, List.replicate] at hV hB
  have H0 := hide hV; have B0 := hide hB
  clear hV hB
  go_loopw [15] (fun is wr => ∃ i : Nat, is = .int .i64 i ∧ i ≤ 32 ∧ Vh 126 wr w.heap.size 32 32 (filF s i) ∧ Below w.heap.size w wr) (fun is _ => 32 - (intOf is).toNat)
  case atStart => exact ⟨0, rfl, Nat.zero_le _, unhide H0, unhide B0⟩
  case round =>
    obtain ⟨i, rfl, hi, hV, hK⟩ := hrel
    have V := hide hV; have KK := hide hK
    clear hV hK H0 B0
    by_cases hin : i < 32
    · have hin2 : (i : Int) < 32 := by omega
      have f1 := (unhide V).free i
      have l1 : (_ : World).cell? ⟨w.heap.size, i, none⟩ = some (filF s i i) := (unhide V).cell hin
      go_wp2_with fail
      go_roundw
      case rel =>
        have e1 : wrap64 (1 - bits .and .i64 (s / 2 ^ i) 1) = (bT (bgS s) i : Nat) := by
          rw [i64_and1, beg_bit s hin]
          have := bT_lt (bgS s) i
          unfold wrap64; omega
        rw [e1]
        exact ⟨i + 1, by go_num, by omega, by rw [← filF_step s i]; exact (unhide V).set i _, below_of_kept (unhide KK) (kept_set _ _ _ _) (by omega) (unhide KK).size⟩
      case measure => simp [intOf]; omega
    · have e6 : i = 32 := by omega
      subst e6
      have V0 := hide (show Vh 126 _ w.heap.size 32 32 (rB (cF (bgS s) g 0)) from (unhide V).congr (fun i hi => by unfold filF; rw [if_pos hi]; rfl))
      clear V
      go_wp2_with fail
      rw [show ((32 : Nat) : Int) = 32 from rfl]
      go_loopw [29] (fun is wr => ∃ i : Nat, is = .int .i64 i ∧ i ≤ len ∧ Vh 126 wr w.heap.size 32 32 (rB (cF (bgS s) g i)) ∧ Below w.heap.size w wr) (fun is _ => len - (intOf is).toNat)
      case atStart => exact ⟨0, rfl, Nat.zero_le _, unhide V0, unhide KK⟩
      case round =>
        obtain ⟨i, rfl, hi, hV, hK⟩ := hrel
        have V := hide hV; have K2 := hide hK
        clear hV hK V0 KK
        have hlt : cF (bgS s) g i < 4294967296 := cF_lt (bgS_lt s) (unhide HG) i
        obtain ⟨r, er⟩ : ∃ r, r = cF (bgS s) g i := ⟨_, rfl⟩
        rw [← er] at hlt V
        have ER := hide er; have HL := hide hlt
        clear er hlt
        by_cases hin : i < len
        · obtain ⟨b, o, rfl, hcs⟩ := (unhide HR).below (unhide K2) (by omega)
          have hc : (_ : World).cell? ⟨b, o + i, none⟩ = some (.int .u8 (g i : Nat)) := hcs i hin
          clear hcs
          have hb := unhide HG i
          obtain ⟨c, ec⟩ : ∃ c, c = g i := ⟨_, rfl⟩
          rw [← ec] at hc hb
          have EC := hide ec
          clear ec
          go_wp2_with fail
          clear hc
          go_loopw [10] (fun ks wr => ∃ k : Nat, ks = .int .i64 k ∧ k ≤ 8 ∧ Vh 126 wr w.heap.size 32 32 (rB (cB r c k)) ∧ Below w.heap.size w wr) (fun ks _ => 8 - (intOf ks).toNat)
          case atStart => exact ⟨0, rfl, Nat.zero_le _, unhide V, unhide K2⟩
          case round =>
            obtain ⟨k, rfl, hk, hV, hK⟩ := hrel
            have V := hide hV; have K3 := hide hK
            clear hV hK K2
            have hlt : cB r c k < 4294967296 := cB_lt (unhide HL) c k
            obtain ⟨x, ex⟩ : ∃ x, x = cB r c k := ⟨_, rfl⟩
            rw [← ex] at hlt V
            have EX := hide ex; have XL := hide hlt
            clear ex hlt
            by_cases hk8 : k < 8
            · have hk2 : (k : Int) < 8 := by omega
              have l0 : (_ : World).cell? ⟨w.heap.size, 0, none⟩ = some (.int .i64 (bT x 0 : Nat)) := (unhide V).cell (by omega)
              have a1 : bits .and .i64 ((c : Int) / 2 ^ k) 1 = ((bT c k : Nat) : Int) := by rw [i64_and1]; unfold bT; simp
              have b1 := bT_lt x 0; have b2 := bT_lt c k
              have a2 := i64_xor_nat (bT x 0) (bT c k) (by omega) (by omega)
              have d2 : bT x 0 ^^^ bT c k = 0 ∨ bT x 0 ^^^ bT c k = 1 := by
                have := Nat.xor_lt_two_pow (n := 1) (x := bT x 0) (y := bT c k) b1 b2; omega
              rcases d2 with d | d
              · have D := hide d
                rw [d] at a2
                clear d b1 b2
                go_wp2_with fail
                clear a1 a2 l0
                refine region_by (S := fun _ => True) [(0, false), (1, false), (2, true)] [] (by kernel_rfl) (by kernel_rfl) ?_
                iterate 2
                  refine seq_read (v := ?_) rfl (fun _ _ _ h => h) (by rfl) trivial ?_ ?_
                  rotate_left 1
                  · intro wx hwx
                    go_simp <;> exact rfl
                  go_frame
                refine seq_do rfl (fun K hK => ?_)
                rw [if_pos (by rfl)]
                refine wp_down _ (.tmp 46) (.tmp 47) rfl w.heap.size x (by rfl) (by rfl) ((unhide V).same rfl) ?_
                intro w3 h3 k3
                refine hK _ _ (fun _ => trivial) ?_
                clear hK K
                refine seq_end ?_
                have l3 : w3.cell? ⟨w.heap.size, 31, none⟩ = some (dwF x 31) := h3.cell (by omega)
                have f3 := h3.free 31
                have h4 := dn_set (unhide XL) h3
                have k4 := below_of_kept (below_of_kept (below_drew (unhide K3)) k3 (Nat.le_refl _) (unhide K3).size) (kept_set w3 w.heap.size 31 (.int .i64 0)) (Nat.le_refl _) (Nat.le_trans (unhide K3).size k3.size)
                have H4 := hide h4; have K4 := hide k4
                clear h3 k3 h4 k4
                go_wp2_with fail
                go_roundw
                case rel => exact ⟨k + 1, by go_num, by omega, by rw [show cB r c (k + 1) = cS (cB r c k ^^^ bT c k) from rfl, ← unhide EX, cS_out _ _ (bT_lt c k) (unhide D)]; exact unhide H4, unhide K4⟩
                case measure => simp [intOf]; omega
              · have D := hide d
                rw [d] at a2
                clear d b1 b2
                go_wp2_with fail
                clear a1 a2 l0
                refine region_by (S := fun _ => True) [(0, false), (1, false), (2, true)] [] (by kernel_rfl) (by kernel_rfl) ?_
                iterate 2
                  refine seq_read (v := ?_) rfl (fun _ _ _ h => h) (by rfl) trivial ?_ ?_
                  rotate_left 1
                  · intro wx hwx
                    go_simp <;> exact rfl
                  go_frame
                refine seq_do rfl (fun K hK => ?_)
                rw [if_pos (by rfl)]
                refine wp_down _ (.tmp 46) (.tmp 47) rfl w.heap.size x (by rfl) (by rfl) ((unhide V).same rfl) ?_
                intro w3 h3 k3
                refine hK _ _ (fun _ => trivial) ?_
                clear hK K
                refine seq_end ?_
                have l3 : w3.cell? ⟨w.heap.size, 31, none⟩ = some (dwF x 31) := h3.cell (by omega)
                have f3 := h3.free 31
                have h4 := dn_set (unhide XL) h3
                have k4 := below_of_kept (below_of_kept (below_drew (unhide K3)) k3 (Nat.le_refl _) (unhide K3).size) (kept_set w3 w.heap.size 31 (.int .i64 0)) (Nat.le_refl _) (Nat.le_trans (unhide K3).size k3.size)
                have H4 := hide h4; have K4 := hide k4
                clear h3 k3 h4 k4
                go_wp2_with fail
                go_loopw [52] (fun js wr => ∃ j : Nat, js = .int .i64 j ∧ j ≤ 32 ∧ Vh 126 wr w.heap.size 32 32 (mixF (x / 2) j) ∧ Below w.heap.size w wr) (fun js _ => 32 - (intOf js).toNat)
                case atStart => exact ⟨0, rfl, Nat.zero_le _, (unhide H4).congr (fun i hi => by unfold mixF; rw [if_neg (by omega)]), unhide K4⟩
                case round =>
                  obtain ⟨j, rfl, hj, hV, hK⟩ := hrel
                  have V5 := hide hV; have K5 := hide hK
                  clear hV hK K4 H4
                  by_cases hj8 : j < 32
                  · have hj2 : (j : Int) < 32 := by omega
                    have l5 : (_ : World).cell? ⟨w.heap.size, j, none⟩ = some (.int .i64 (bT (x / 2) j : Nat)) := ((unhide V5).cell hj8).trans (by unfold mixF; rw [if_neg (by omega)]; rfl)
                    have f5 := (unhide V5).free j
                    have a1 : bits .and .i64 ((3988292384 : Int) / 2 ^ j) 1 = ((bT 3988292384 j : Nat) : Int) := by rw [i64_and1]; unfold bT; simp
                    have b1 := bT_lt (x / 2) j; have b2 := bT_lt 3988292384 j
                    have a2 := i64_xor_nat (bT (x / 2) j) (bT 3988292384 j) (by omega) (by omega)
                    rw [← bT_x] at a2
                    go_wp2_with fail
                    go_roundw
                    case rel => exact ⟨j + 1, by go_num, by omega, by rw [← mixF_step (x / 2) j]; exact (unhide V5).set j _, below_of_kept (unhide K5) (kept_set _ _ _ _) (by omega) (unhide K5).size⟩
                    case measure => simp [intOf]; omega
                  · have e7 : j = 32 := by omega
                    subst e7
                    go_wp2_with fail
                    go_roundw
                    case rel => exact ⟨k + 1, by go_num, by omega, by rw [show cB r c (k + 1) = cS (cB r c k ^^^ bT c k) from rfl, ← unhide EX, cS_in _ _ (bT_lt c k) (unhide D)]; exact (unhide V5).congr (fun i hi => by unfold mixF; rw [if_pos hi]), unhide K5⟩
                    case measure => simp [intOf]; omega
            · have e7 : k = 8 := by omega
              subst e7
              go_wp2_with fail
              go_roundw
              case rel => exact ⟨i + 1, by go_num, by omega, by rw [show cF (bgS s) g (i + 1) = cN 8 (cF (bgS s) g i ^^^ g i) from rfl, ← unhide ER, ← unhide EC, ← cB_8 _ _ hb, ← unhide EX]; exact unhide V, unhide K3⟩
              case measure => simp [intOf]; omega
        · have e7 : i = len := by omega
          subst e7
          go_wp2_with fail
          go_loop [13, 14] (fun ns ks => ∃ m : Nat, m ≤ 32 ∧ ks = .int .i64 (31 - (m : Int)) ∧ ns = .int .i64 ((2 ^ m - 1 - r / 2 ^ (32 - m) : Nat) : Int)) (fun _ ks => (intOf ks + 1).toNat)
          case atStart => exact ⟨0, by omega, rfl, by rw [show (2 ^ 0 - 1 - r / 2 ^ (32 - 0) : Nat) = 0 by rw [show 2 ^ 0 - 1 = 0 from rfl, Nat.zero_sub]]; rfl⟩
          case round =>
            obtain ⟨m, hm, rfl, rfl⟩ := hrel
            by_cases hm2 : m < 32
            · obtain ⟨k, hk, rfl⟩ : ∃ k, k < 32 ∧ m = 31 - k := ⟨31 - m, by omega, by omega⟩
              have e8 : (31 - ((31 - k : Nat) : Int)) = (k : Int) := by omega
              rw [e8]
              have nb : 2 ^ (31 - k) - 1 - r / 2 ^ (32 - (31 - k)) < 4294967296 := by
                have : 2 ^ (31 - k) ≤ 2 ^ 31 := Nat.pow_le_pow_right (by omega) (by omega)
                exact Nat.lt_of_le_of_lt (Nat.le_trans (Nat.sub_le _ _) (Nat.sub_le _ _)) (Nat.lt_of_le_of_lt this (by decide))
              have nu : 2 * (2 ^ (31 - k) - 1 - r / 2 ^ (32 - (31 - k))) + 1 - bT r k = 2 ^ (31 - k + 1) - 1 - r / 2 ^ (32 - (31 - k + 1)) := by
                rcases bits_up r (31 - k) (by omega) with h | h
                · rw [show 31 - (31 - k) = k by omega] at h
                  rw [h, show 32 - (31 - k + 1) = k by omega]
                · exact absurd (unhide HL) h
              obtain ⟨N, eN⟩ : ∃ N, N = 2 ^ (31 - k) - 1 - r / 2 ^ (32 - (31 - k)) := ⟨_, rfl⟩
              rw [← eN] at nb nu ⊢
              have NU := hide nu; have EN := hide eN
              clear nu eN e8
              have l9 : wr.cell? ⟨w.heap.size, k, none⟩ = some (.int .i64 (bT r k : Nat)) := (unhide V).cell hk
              have b9 := bT_lt r k
              have hk2 : (k : Int) < 32 := by omega
              go_wp2_with fail
              go_round
              case rel => exact ⟨31 - k + 1, by omega, by go_num, by rw [← unhide NU]; go_num⟩
              case measure => simp [intOf] <;> omega
            · have e9 : m = 32 := by omega
              subst e9
              go_wp2_with fail
              go_ret
              exact ⟨by unfold moreN; rw [← unhide ER]; go_num, unhide K2⟩

theorem refSum_any (ao : Option Addr) (len cap : Nat) (g : Nat → Nat) (w : World) (hg : ∀ i, g i < 256) (hl : len ≤ 9223372036854775807) (hr : Rd w ao len (bF g)) :
    Calls Tryz.prog 48 #[.slice ao len cap] w fun e w' => e = .returned (.int .i64 (moreN 0 g len : Nat)) ∧ Below w.heap.size w w' := by
  go_enter Tryz.func48, Tryz.ntmps48
  go_wp2_with fail
  refine (refMore_any 0 (by unfold R64; omega) ao len cap g w hg hl hr).mono ?_
  rintro e w1 ⟨rfl, k1⟩
  go_wp2_with fail
  go_ret
  exact ⟨rfl, k1⟩

end Go.Proofs.YtngmeaaglogieaaGreat
