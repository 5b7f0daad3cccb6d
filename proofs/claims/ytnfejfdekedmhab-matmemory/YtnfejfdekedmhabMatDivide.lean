/- Contracts: divide of a matrix at work. -/
import Derived.Test.YtnfejfdekedmhabMatSolS
namespace Go.Proofs.Ytnfejfdekedmhab
open Go.RowKit

/-- Two cells of two blocks. -/
def ClT (b c i : Nat) (v0 v1 : Value) (w : World) : Prop := w.cell? ⟨b, i, none⟩ = some v0 ∧ w.cell? ⟨c, i, none⟩ = some v1
theorem ClT.kept {z b c i : Nat} {v0 v1 : Value} {w w' : World} (h : ClT b c i v0 v1 w) (q : Kept z w w') (hz : b ≠ z) (hc : c ≠ z) : ClT b c i v0 v1 w' := ⟨at_kept h.1 q hz, at_kept h.2 q hc⟩

set_option maxHeartbeats 4000000 in
theorem wkDivide_any (b n r cap bx cx bd cd : Nat) (f y d : Nat → Int) (x : Bool) (w : World) (hy : ∀ i, R64 (y i)) (hd : ∀ i, R64 (d i)) (hxb : bx ≠ b) (hxr : bx ≠ r) (hdb : bd ≠ b) (hdx : bd ≠ bx) (hx : Nh w bx n cx y) (hdn : Nh w bd n cd d) (h : MW w b n r cap f x) :
    Calls Try.prog 29 #[.pointer (some ⟨b, 0, none⟩), .slice (some ⟨bx, 0, none⟩) n cx, .slice (some ⟨bd, 0, none⟩) n cd] w fun e w' =>
      e = .returned (.tuple #[]) ∧ MW w' b n r cap f (x || dvB y d n) ∧ Nh w' bx n cx (dvF y d n) ∧ Kp2 b bx w w' := by
  have hn6 := h.n6
  have H := hide h; have HY := hide hy; have HD := hide hd; have HX := hide hx; have HXB := hide hxb; have HXR := hide hxr; have HDB := hide hdb; have HDX := hide hdx; have HDN := hide hdn
  clear h hy hd hx hxb hxr hdb hdx hdn
  go_enter Try.func29, Try.ntmps29
  go_wp2_with fail
  go_loopw [6, 9] (fun _ is wr => ∃ i : Nat, is = .int .i64 i ∧ i ≤ n ∧ MW wr b n r cap f (x || dvB y d i) ∧ Nh wr bx n cx (dvF y d i) ∧ Kp2 b bx w wr)
    (fun _ is _ => n - (intOf is).toNat)
  case atStart =>
    refine ⟨0, rfl, Nat.zero_le _, ?_, unhide HX, Kp2.refl _ _ _⟩
    show MW _ b n r cap f (x || false)
    rw [Bool.or_false]; exact unhide H
  case round =>
    obtain ⟨i, rfl, hi, hM, hN, hK⟩ := hrel
    have HM := hide hM; have HK := hide hK; have HN := hide hN
    clear hM hK hN
    by_cases hin : i < n
    · rename World => wr
      have ci : wr.cell? ⟨bx, i, none⟩ = some (.int .i64 (y i)) := by have := (unhide HN).cell hin; rw [dvF_at y d (Nat.le_refl i)] at this; exact this
      have ck : wr.cell? ⟨bd, i, none⟩ = some (.int .i64 (d i)) := ((unhide HDN).kp2 (unhide HK) (unhide HDB) (unhide HDX)).cell hin
      have hS : ClT bx bd i (.int .i64 (y i)) (.int .i64 (d i)) wr.drew := ⟨ci, ck⟩
      clear ci ck
      go_wp2_with fail
      refine region_by (S := ClT bx bd i (.int .i64 (y i)) (.int .i64 (d i)))
        [(0, false), (1, false), (2, false), (3, false), (4, false), (5, false), (6, false), (7, false), (8, false), (9, false), (10, false), (11, true), (12, false), (13, true)] [13] (by kernel_rfl) (by kernel_rfl) ?_
      iterate 11
        refine seq_read (v := ?_) rfl (fun _ _ _ h => h) (by rfl) hS ?_ ?_
        rotate_left 1
        · intro wx hwx
          obtain ⟨q1, q2⟩ := hwx
          go_simp <;> exact rfl
        go_frame
      refine seq_do rfl (fun K hK => ?_)
      go_simp
      refine (wkDiv_any b n r cap f _ _ _ _ (unhide HY i) (unhide HD i) (mw_drew (unhide HM))).mono ?_
      rintro e w2 ⟨rfl, h2, k2⟩
      have hS2 := ClT.kept (w := wr.drew) hS k2 (unhide HXB) (unhide HDB)
      refine hK _ _ (fun _ => hS2) ?_
      have N3 := hide ((show Nh wr.drew bx n cx (dvF y d i) from unhide HN).kept k2 (unhide HXB))
      have H2 := hide h2; have K2 := hide (show Kp2 b bx w w2 from ((unhide HK).trans (Kp2.of_kept (kept_drew (z := b) wr) (Or.inl rfl))).trans (Kp2.of_kept k2 (Or.inl rfl)))
      clear hK K hS h2 k2
      refine seq_read (v := ?_) rfl (fun _ _ _ h => h) (by rfl) hS2 ?_ ?_
      rotate_left 1
      · intro wx hwx
        clear hwx
        go_simp <;> exact rfl
      go_frame
      have c3 := hS2.1
      have f3 := (unhide N3).free i
      refine seq_do rfl (fun K hK => ?_)
      go_simp
      refine hK _ _ (fun h => by cases h) ?_
      clear hK K hS2 c3 f3
      refine seq_end ?_
      have F := hide (show MW (w2.setCell ⟨bx, i, none⟩ (.int .i64 (divV (y i) (d i)))) b n r cap f (x || dvB y d (i + 1)) ∧
          Nh (w2.setCell ⟨bx, i, none⟩ (.int .i64 (divV (y i) (d i)))) bx n cx (dvF y d (i + 1)) ∧ Kp2 b bx w (w2.setCell ⟨bx, i, none⟩ (.int .i64 (divV (y i) (d i)))) from by
        refine ⟨?_, (unhide N3).set i _, (unhide K2).trans (Kp2.of_kept (kept_set w2 bx i _) (Or.inr (Or.inl rfl)))⟩
        have hm := (unhide H2).kept (kept_set w2 bx i (.int .i64 (divV (y i) (d i)))) (unhide HXB).symm (unhide HXR).symm
        rw [Bool.or_assoc] at hm
        exact hm)
      generalize w2.setCell ⟨bx, i, none⟩ (.int .i64 (divV (y i) (d i))) = w4 at *
      go_wp2_with fail
      go_roundw
      case rel => exact ⟨i + 1, by go_num, by omega, (unhide F).1, (unhide F).2.1, (unhide F).2.2⟩
      case measure => simp [intOf] <;> omega
    · have hin2 : i = n := by omega
      subst hin2
      go_wp2_with fail
      go_end0
      exact ⟨rfl, unhide HM, unhide HN, unhide HK⟩

end Go.Proofs.Ytnfejfdekedmhab
