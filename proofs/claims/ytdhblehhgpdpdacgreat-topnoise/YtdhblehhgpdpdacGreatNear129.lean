import Derived.Test.YtdhblehhgpdpdacGreatNear101
import Derived.Test.YtdhblehhgpdpdacGreatRefNod8
import Derived.Test.YtdhblehhgpdpdacGreatNear47
import Derived.Test.YtdhblehhgpdpdacGreatNear131
import Derived.Test.YtdhblehhgpdpdacGreatRowPlain
import Derived.Test.YtdhblehhgpdpdacGreatFixWalks
import Derived.Test.YtdhblehhgpdpdacGreatNear94
namespace Go.Proofs.YtdhblehhgpdpdacGreat
open Go.RowKit
end Go.Proofs.YtdhblehhgpdpdacGreat
namespace Go.Proofs.YtdhblehhgpdpdacGreat
open Go.RowKit
def SAt (w : World) (b : Nat) (s : St) : Prop := w.heap[b]? = some (.cells #[.int .i64 s.X, .int .i64 s.V, .int .i64 s.P00, .int .i64 s.P01, .int .i64 s.P11, .bool s.B, .int .i64 s.M] 45 (0, 0))
theorem SAt.c1 {w : World} {b : Nat} {s : St} (h : SAt w b s) : w.cell? ⟨b, 1, none⟩ = some (.int .i64 s.V) := by
 unfold SAt at h; unfold World.cell?; rw [h]; rfl
theorem SAt.c2 {w : World} {b : Nat} {s : St} (h : SAt w b s) : w.cell? ⟨b, 2, none⟩ = some (.int .i64 s.P00) := by
 unfold SAt at h; unfold World.cell?; rw [h]; rfl
theorem SAt.lt {w : World} {b : Nat} {s : St} (h : SAt w b s) : b < w.heap.size := lt_of_block h
theorem SAt.same {w' : World} {w : World} {b : Nat} {s : St} (h : SAt w b s) (e : w'.heap[b]? = w.heap[b]?) : SAt w' b s := e.trans h
theorem SAt.kept {z : Nat} {w' : World} {w : World} {b : Nat} {s : St} (h : SAt w b s) (k : Kept z w w') (hz : b ≠ z) : SAt w' b s := h.same (k.block b h.lt hz)
theorem SAt.s0 {w : World} {b : Nat} {s : St} (h : SAt w b s) (u : Int) : SAt (w.setCell ⟨b, 0, none⟩ (.int .i64 u)) b { s with X := u } := by
 unfold SAt at h ⊢
 exact heap_setCell_same w b 0 _ _ (.int .i64 u) h
theorem SAt.s1 {w : World} {b : Nat} {s : St} (h : SAt w b s) (u : Int) : SAt (w.setCell ⟨b, 1, none⟩ (.int .i64 u)) b { s with V := u } := by
 unfold SAt at h ⊢
 exact heap_setCell_same w b 1 _ _ (.int .i64 u) h
theorem SAt.s2 {w : World} {b : Nat} {s : St} (h : SAt w b s) (u : Int) : SAt (w.setCell ⟨b, 2, none⟩ (.int .i64 u)) b { s with P00 := u } := by
 unfold SAt at h ⊢
 exact heap_setCell_same w b 2 _ _ (.int .i64 u) h
theorem SAt.s3 {w : World} {b : Nat} {s : St} (h : SAt w b s) (u : Int) : SAt (w.setCell ⟨b, 3, none⟩ (.int .i64 u)) b { s with P01 := u } := by
 unfold SAt at h ⊢
 exact heap_setCell_same w b 3 _ _ (.int .i64 u) h
theorem SAt.s4 {w : World} {b : Nat} {s : St} (h : SAt w b s) (u : Int) : SAt (w.setCell ⟨b, 4, none⟩ (.int .i64 u)) b { s with P11 := u } := by
 unfold SAt at h ⊢
 exact heap_setCell_same w b 4 _ _ (.int .i64 u) h
theorem SAt.s5 {w : World} {b : Nat} {s : St} (h : SAt w b s) (u : Bool) : SAt (w.setCell ⟨b, 5, none⟩ (.bool u)) b { s with B := u } := by
 unfold SAt at h ⊢
 exact heap_setCell_same w b 5 _ _ (.bool u) h
theorem SAt.s6 {w : World} {b : Nat} {s : St} (h : SAt w b s) (u : Int) : SAt (w.setCell ⟨b, 6, none⟩ (.int .i64 u)) b { s with M := u } := by
 unfold SAt at h ⊢
 exact heap_setCell_same w b 6 _ _ (.int .i64 u) h
theorem SAt.put {w : World} {b : Nat} {s : St} (h : SAt w b s) (t : St) : ∃ w', w' = (((((((w.setCell ⟨b, 0, none⟩ (.int .i64 t.X)).setCell ⟨b, 1, none⟩ (.int .i64 t.V)).setCell ⟨b, 2, none⟩ (.int .i64 t.P00)).setCell ⟨b, 3, none⟩ (.int .i64 t.P01)).setCell ⟨b, 4, none⟩ (.int .i64 t.P11)).setCell ⟨b, 5, none⟩ (.bool t.B)).setCell ⟨b, 6, none⟩ (.int .i64 t.M)) ∧ SAt w' b t ∧ Kept b w w' := by
 refine ⟨_, rfl, ?_, ?_⟩
 ·exact (((((((h.s0 t.X).s1 t.V).s2 t.P00).s3 t.P01).s4 t.P11).s5 t.B).s6 t.M)
 ·exact (((((((kept_set w b 0 _).trans (kept_set _ b 1 _) (Or.inl rfl)).trans (kept_set _ b 2 _) (Or.inl rfl)).trans (kept_set _ b 3 _) (Or.inl rfl)).trans (kept_set _ b 4 _) (Or.inl rfl)).trans (kept_set _ b 5 _) (Or.inl rfl)).trans (kept_set _ b 6 _) (Or.inl rfl))
def HbAt (w : World) (bh b : Nat) : Prop := w.heap[bh]? = some (.cells #[.pointer (some ⟨b, 0, none⟩)] 195 (0, 0))
theorem HbAt.lt {w : World} {bh b : Nat} (h : HbAt w bh b) : bh < w.heap.size := lt_of_block h
theorem HbAt.same {w w' : World} {bh b : Nat} (h : HbAt w bh b) (e : w'.heap[bh]? = w.heap[bh]?) : HbAt w' bh b := e.trans h
theorem HbAt.kept {z : Nat} {w w' : World} {bh b : Nat} (h : HbAt w bh b) (k : Kept z w w') (hz : bh ≠ z) : HbAt w' bh b := h.same (k.block bh h.lt hz)
structure Hd (bh b bo : Nat) (s : St) (w : World) : Prop where
 hand : HbAt w bh b
 old : SAt w bo s
 n1 : bh ≠ b
 n2 : bo ≠ b
theorem Hd.kept {bh b bo : Nat} {s : St} {w w' : World} (h : Hd bh b bo s w) (k : Kept b w w') : Hd bh b bo s w' := ⟨h.hand.kept k h.n1, h.old.kept k h.n2, h.n1, h.n2⟩
def St.nil : St := ⟨0, 0, 0, 0, 0, false, 0⟩
end Go.Proofs.YtdhblehhgpdpdacGreat
namespace Go.Proofs.YtdhblehhgpdpdacGreat
open Go.RowKit
end Go.Proofs.YtdhblehhgpdpdacGreat
namespace Go.Proofs.YtdhblehhgpdpdacGreat
open Go.RowKit
end Go.Proofs.YtdhblehhgpdpdacGreat
namespace Go.Proofs.YtdhblehhgpdpdacGreat
open Go.RowKit
end Go.Proofs.YtdhblehhgpdpdacGreat
namespace Go.Proofs.YtdhblehhgpdpdacGreat
open Go.RowKit
end Go.Proofs.YtdhblehhgpdpdacGreat
namespace Go.Proofs.YtdhblehhgpdpdacGreat
open Go.RowKit
end Go.Proofs.YtdhblehhgpdpdacGreat
namespace Go.Proofs.YtdhblehhgpdpdacGreat
open Go.RowKit
end Go.Proofs.YtdhblehhgpdpdacGreat
namespace Go.Proofs.YtdhblehhgpdpdacGreat
open Go.RowKit
end Go.Proofs.YtdhblehhgpdpdacGreat
namespace Go.Proofs.YtdhblehhgpdpdacGreat
open Go.RowKit
end Go.Proofs.YtdhblehhgpdpdacGreat
namespace Go.Proofs.YtdhblehhgpdpdacGreat
open Go.RowKit
end Go.Proofs.YtdhblehhgpdpdacGreat
namespace Go.Proofs.YtdhblehhgpdpdacGreat
open Go.RowKit
def TAt (w : World) (b : Nat) (t : Tn) : Prop := w.heap[b]? = some (.cells #[.int .i64 t.Dt, .int .i64 t.Q, .int .i64 t.R, .int .i64 t.G] 23 (0, 0))
theorem TAt.c1 {w : World} {b : Nat} {t : Tn} (h : TAt w b t) : w.cell? ⟨b, 1, none⟩ = some (.int .i64 t.Q) := by
 unfold TAt at h; unfold World.cell?; rw [h]; rfl
theorem TAt.c2 {w : World} {b : Nat} {t : Tn} (h : TAt w b t) : w.cell? ⟨b, 2, none⟩ = some (.int .i64 t.R) := by
 unfold TAt at h; unfold World.cell?; rw [h]; rfl
theorem TAt.lt {w : World} {b : Nat} {t : Tn} (h : TAt w b t) : b < w.heap.size := lt_of_block h
theorem TAt.same {w w' : World} {b : Nat} {t : Tn} (h : TAt w b t) (e : w'.heap[b]? = w.heap[b]?) : TAt w' b t := e.trans h
theorem TAt.kept {z : Nat} {w w' : World} {b : Nat} {t : Tn} (h : TAt w b t) (k : Kept z w w') (hz : b ≠ z) : TAt w' b t := h.same (k.block b h.lt hz)
structure ST (bs bt : Nat) (s : St) (t : Tn) (w : World) : Prop where
 st : SAt w bs s
 tn : TAt w bt t
theorem ST.kept {z bs bt : Nat} {s : St} {t : Tn} {w w' : World} (h : ST bs bt s t w) (k : Kept z w w') (n1 : bs ≠ z) (n2 : bt ≠ z) : ST bs bt s t w' := ⟨h.st.kept k n1, h.tn.kept k n2⟩
end Go.Proofs.YtdhblehhgpdpdacGreat
