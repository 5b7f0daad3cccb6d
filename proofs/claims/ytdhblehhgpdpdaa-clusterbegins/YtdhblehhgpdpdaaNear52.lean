import Derived.Test.YtdhblehhgpdpdaaNear63
import Derived.Test.YtdhblehhgpdpdaaNear64
import Derived.Test.YtdhblehhgpdpdaaNear14
import Derived.Test.YtdhblehhgpdpdaaNear22
import Derived.Test.YtdhblehhgpdpdaaMemOK
import Derived.ArgAppend
import Derived.Test.YtdhblehhgpdpdaaNear61
import Derived.Test.YtdhblehhgpdpdaaNear56
namespace Go.Proofs.Ytdhblehhgpdpdaa
open Go.RowKit
end Go.Proofs.Ytdhblehhgpdpdaa
namespace Go.Proofs.Ytdhblehhgpdpdaa
open Go.RowKit
end Go.Proofs.Ytdhblehhgpdpdaa
namespace Go.Proofs.Ytdhblehhgpdpdaa
open Go.RowKit
end Go.Proofs.Ytdhblehhgpdpdaa
namespace Go.Proofs.Ytdhblehhgpdpdaa
open Go.RowKit
def fourI (f : Nat → It) : It := ⟨fun w => ∀ i, i < 4 → (f i).p w, fun k => ∃ i, i < 4 ∧ (f i).foot k, fun h e i hi => (f i).ok (h i hi) (fun k h1 h2 => e k h1 ⟨i, hi, h2⟩), fun h ⟨i, hi, e⟩ => (f i).lt (h i hi) e⟩
theorem Cx.wk {w0 w : World} {x y : It} {l : List It} (H : Cx w0 w (x :: l)) (h1 : x.p w → y.p w) (h2 : ∀ k, y.foot k → x.foot k) : Cx w0 w (y :: l) := by
 obtain ⟨d1, d2⟩ := List.pairwise_cons.1 H.dis
 refine ⟨H.bel, fun z hz => ?_, fun z hz j hj => ?_, List.pairwise_cons.2 ⟨fun z hz j h3 => d1 z hz j (h2 j h3), d2⟩⟩
 ·rcases List.mem_cons.1 hz with rfl | hz
  ·exact h1 H.o0
  ·exact H.it z (List.mem_cons_of_mem _ hz)
 ·rcases List.mem_cons.1 hz with rfl | hz
  ·exact H.up x List.mem_cons_self j (h2 j hj)
  ·exact H.up z (List.mem_cons_of_mem _ hz) j hj
theorem four_set {w0 w : World} {α : Type} {g : α → It} {D : Nat → α} {y : α} {l : List It} (i : Nat) (H : Cx w0 w (g y :: fourI (fun j => g (D j)) :: l)) : Cx w0 w (fourI (fun j => g (upM D i y j)) :: l) := by
 refine H.merge.wk (fun h j hj => ?_) (fun k hk => ?_)
 ·show (g (upM D i y j)).p w
  by_cases e : j = i
  ·rw [e, upM_same]; exact h.1
  ·rw [upM_other _ _ e]; exact h.2 j hj
 ·obtain ⟨j, hj, hk⟩ := hk
  have hk : (g (upM D i y j)).foot k := hk
  by_cases e : j = i
  ·rw [e, upM_same] at hk; exact Or.inl hk
  ·rw [upM_other _ _ e] at hk; exact Or.inr ⟨j, hj, hk⟩
abbrev Ad := Option Addr × Nat
def agJ (B : Nat) (d : Nd × Ad) : It := ownI B 4 1 (slV d.2 d.1.vA.length) d.1.vA.length (rowV (tF (bA d.1)) d.1.vA.length)
def agI (B : Nat) (D : Nat → Nd × Ad) : It := fourI (fun i => agJ B (D i))
def clG (fr : Int) (D : Nat → Nd × Ad) : Nat → Value := clF fr (fun i => (D i).1) (fun i => slV (D i).2 (D i).1.vA.length)
theorem upM_ap {α β : Type} (f : α → β) (D : Nat → α) (i : Nat) (y : α) : (fun j => f (upM D i y j)) = upM (fun j => f (D j)) i (f y) := by
 funext j
 unfold upM
 split <;> rfl
theorem clG_set (fr : Int) (D : Nat → Nd × Ad) (i : Nat) (d : Nd × Ad) : ∀ j, j < 297 → stP (clG fr D) (1 + i * 74) 74 (ndF d.1 (slV d.2 d.1.vA.length)) j = clG fr (upM D i d) j := by
 unfold clG
 rw [upM_ap (fun d : Nd × Ad => d.1), upM_ap (fun d : Nd × Ad => slV d.2 d.1.vA.length)]
 exact clF_set _ _ _ _ _ _
theorem clG_one (fr : Int) (D : Nat → Nd × Ad) : ∀ j, j < 297 → (clG fr D j).oneCell' = true := clF_one _ _ _ _
section
variable {P : Program} {Q : Exit → Act → World → Prop} {J : Act → World → Prop} {a : Act} {w : World} {x : Code} {id : Nat} {fn : Func} {R : Ending → World → Prop}
end
end Go.Proofs.Ytdhblehhgpdpdaa
namespace Go.Proofs.Ytdhblehhgpdpdaa
open Go.RowKit
end Go.Proofs.Ytdhblehhgpdpdaa
namespace Go.Proofs.Ytdhblehhgpdpdaa
open Go.RowKit
structure SJ (w : World) (R : Rl) (X : Int) (st : Bool) (s : Value) (wr : World) : Prop where
 r : RAt wr w.heap.size R
 v : VdAt wr (w.heap.size + 1) X st s
 z : RAt wr (w.heap.size + 1 + 1) zeroR
 k : Below w.heap.size w wr
 n : w.heap.size + 1 + 1 + 1 ≤ wr.heap.size
section
variable {w wr w' : World} {R R' : Rl} {X : Int} {st : Bool} {s : Value}
theorem SJ.below (h : SJ w R X st s wr) (k : Below wr.heap.size wr w') : SJ w R X st s w' := ⟨h.r.below k, h.v.below k, h.z.below k, h.k.trans (k.mono h.k.size), Nat.le_trans h.n k.size⟩
theorem SJ.put (h : SJ w R X st s wr) (k : Kept w.heap.size wr w') (r : RAt w' w.heap.size R') : SJ w R' X st s w' := ⟨r, h.v.kept k (by omega), h.z.kept k (by omega), below_of_kept h.k k (Nat.le_refl _) h.k.size, Nat.le_trans h.n k.size⟩
end
end Go.Proofs.Ytdhblehhgpdpdaa
namespace Go.Proofs.Ytdhblehhgpdpdaa
open Go.RowKit
end Go.Proofs.Ytdhblehhgpdpdaa
namespace Go.Proofs.Ytdhblehhgpdpdaa
open Go.RowKit
def BgI (w : World) (i : Nat) (wr : World) : Prop := RAt wr (w.heap.size + 1) ⟨fun j => decide (j < i), fun _ => 0, fun _ => 0⟩ ∧ RAt wr w.heap.size zeroR ∧ Below w.heap.size w wr
theorem BgI.set {w wr : World} {i : Nat} (h : BgI w i wr) (hi : i < 4) : BgI w (i + 1) (wr.setCell ⟨w.heap.size + 1, i, none⟩ (.bool true)) := by
 have kk := kept_set wr (w.heap.size + 1) i (.bool true)
 refine ⟨(h.1.setI hi true).alike (fun j hj => ⟨?_, rfl, rfl⟩), h.2.1.kept kk (by omega), below_of_kept h.2.2 kk (by omega) h.2.2.size⟩
 show upM (fun j => decide (j < i)) i true j = decide (j < i + 1)
 by_cases e : j = i
 ·rw [e, upM_same]; simp
 ·rw [upM_other _ _ e]; by_cases h : j < i <;> simp [h] <;> omega
theorem memberBegin_ok : BgOK 12 := by
 intro w
 obtain ⟨w1, e1, m1, k1, z1⟩ := r_alloc w zeroR
 obtain ⟨w2, e2, m2, k2, z2⟩ := r_alloc w1 zeroR
 rw [z1] at m2
 have H0 := hide (show BgI w 0 w2 from ⟨m2.alike (fun j _ => ⟨rfl, rfl, rfl⟩), m1.below k2, k1.trans (k2.mono k1.size)⟩)
 unfold zeroR at e1 e2
 dsimp only at e1 e2
 have E1 := hide e1; have E2 := hide e2
 clear e1 e2 m1 m2 k1 k2 z1 z2
 go_enter Try.func12, Try.ntmps12
 go_wp2_with fail
 rw [← unhide E1, ← unhide E2]
 go_loopw [4] (fun is wr => ∃ i : Nat, is = .int .i64 i ∧ i ≤ 4 ∧ BgI w i wr) (fun is _ => 4 - (intOf is).toNat)
 case atStart => exact ⟨0, rfl, by omega, unhide H0⟩
 case round =>
  obtain ⟨i, rfl, hi, hI⟩ := hrel
  rename World => wr
  by_cases hin : i < 4
  ·have hin' : (i : Int) < 4 := by omega
   have c1 := hI.1.inn hin; have f1 := hI.1.free i
   have H5 := hide (hI.set hin)
   clear hI
   go_wp2_with fail
   go_roundw
   case rel => exact ⟨i + 1, by go_num, by omega, unhide H5⟩
   case measure => simp [intOf] <;> omega
  ·have e9 : i = 4 := by omega
   subst e9
   rw [show ((4 : Nat) : Int) = 4 from rfl]
   have HI := hide hI
   clear hI
   go_wp2_with (first | refine wpList_loadRl _ rfl (.tmp 1) rfl rfl (unhide HI).1 ?_ | (refine wpList_storeRl _ rfl (.tmp 0) (.tmp 11) rfl rfl rfl (unhide HI).2.1 rfl ?_; intro w5 m5 k5))
   have K5 := hide (below_of_kept (unhide HI).2.2 k5 (by omega) (unhide HI).2.2.size)
   clear k5
   go_wp2_with fail
   have p0 := m5.inn (i := 0) (by omega)
   have p1 := m5.inn (i := 1) (by omega)
   have p2 := m5.inn (i := 2) (by omega)
   have p3 := m5.inn (i := 3) (by omega)
   have p4 := m5.mis (i := 0) (by omega)
   have p5 := m5.mis (i := 1) (by omega)
   have p6 := m5.mis (i := 2) (by omega)
   have p7 := m5.mis (i := 3) (by omega)
   have p8 := m5.joi (i := 0) (by omega)
   have p9 := m5.joi (i := 1) (by omega)
   have p10 := m5.joi (i := 2) (by omega)
   have p11 := m5.joi (i := 3) (by omega)
   refine bodyPost_ret (v := rollV beginR) (by unfold rollV; simp [beginR, results, Try.results12, go_sem, p0, p1, p2, p3, p4, p5, p6, p7, p8, p9, p10, p11]) rfl ⟨rfl, unhide K5⟩
end Go.Proofs.Ytdhblehhgpdpdaa
