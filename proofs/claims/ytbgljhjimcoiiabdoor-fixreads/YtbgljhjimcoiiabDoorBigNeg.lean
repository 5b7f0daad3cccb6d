/- Contracts of the reference's whole numbers of any size: Neg. -/
import Derived.Test.YtbgljhjimcoiiabDoorBigTwin
namespace Go.Proofs.YtbgljhjimcoiiabDoor
open Go.RowKit

set_option maxHeartbeats 1000000 in
theorem neg_any (z bx : Nat) (x : Int) (s0 : Bool) (v0 : Value) (w : World) (hz : IntAt w z (.bool s0) v0) (hx : Num w bx x) (dx : Bd x) :
    Calls Tryd.prog 15 #[.pointer (some ⟨z, 0, none⟩), .pointer (some ⟨bx, 0, none⟩)] w fun e w' =>
      e = .returned (.pointer (some ⟨z, 0, none⟩)) ∧ Num w' z (-x) ∧ Kept z w w' := by
  obtain ⟨xn, xv, n, fa, hx1, hx2, hx3, hx4, hx5, hx6⟩ := hx
  have hn : n ≤ 100 := by
    unfold Bd at dx
    rw [hx5, absZ_sgn (val_bd hx3).1] at dx
    exact len_le hx3 hx4 dx
  have c1 := hx1.cell0; have c2 := hx1.cell1
  have HX2 := hide hx2; have HX3 := hide hx3; have HX4 := hide hx4
  have E := hide (show sgnZ (!xn) (val fa n) = -x by rw [hx5]; cases xn <;> simp [sgnZ])
  have HZ := hide hz
  obtain ⟨ao, capa, rfl, -, -, -⟩ := hx2.view
  clear hx1 hx2 hx3 hx4 hx5 hx6 hz dx
  go_enter Tryd.func15, Tryd.ntmps15
  go_wp2_with fail
  refine region_by (S := One bx (.bool xn) (.slice ao n capa))
    [(0, false), (1, false), (2, false), (3, false), (4, false), (5, false), (6, false), (7, false), (8, false), (9, false), (10, true), (11, true), (12, true)] [11, 12] (by kernel_rfl) (by kernel_rfl) ?_
  have hS : One bx (.bool xn) (.slice ao n capa) w.drew := ⟨c1, c2⟩
  clear c1 c2
  iterate 10
    refine seq_read (v := ?_) rfl (fun _ _ _ h => h) (by rfl) hS ?_ ?_
    rotate_left 1
    · intro wx hwx
      obtain ⟨k1, k2⟩ := hwx
      go_simp <;> exact rfl
    go_frame
  refine seq_do rfl (fun K hK => ?_)
  go_simp
  refine (twin_words _ n fa (by omega) _ (by exact unhide HX2)).mono ?_
  rintro e w1 ⟨v, rfl, h2, h6⟩
  have H2 := hide h2; have H6 := hide h6
  obtain ⟨vo, cap, rfl, -, -, -⟩ := h2.view
  have hS1 := hS.below h6
  refine hK _ _ (fun _ => hS1) ?_
  clear hS hK K h2 h6 hS1
  refine seq_do rfl (fun K hK => ?_)
  go_simp
  refine (give_any z _ _ _ _ _ _ _ (IntAt.below (w := w.drew) (unhide HZ) (unhide H6))).mono ?_
  rintro e w2 ⟨rfl, g1, g2⟩
  refine hK _ _ (fun h => by cases h) ?_
  have F := hide (show Num w2 z (-x) ∧ Kept z w w2 from by
    have hsl := (unhide H2).other g2 (IntAt.below (w := w.drew) (unhide HZ) (unhide H6))
    have hnum := num_of_give g1 hsl (unhide HX3) (unhide HX4)
    rw [unhide E] at hnum
    exact ⟨hnum, (Kept.of_below (show Below w.heap.size w w1 from ((Drw.refl w).drew.below _).trans (unhide H6))).trans g2 (Or.inl rfl)⟩)
  clear g1 g2 hK K
  refine seq_do rfl (fun K hK => ?_)
  go_simp
  refine hK _ _ (fun h => by cases h) ?_
  clear hK K
  refine seq_end ?_
  go_wp2_with fail
  go_ret
  exact ⟨rfl, (unhide F).1, (unhide F).2⟩

end Go.Proofs.YtbgljhjimcoiiabDoor
