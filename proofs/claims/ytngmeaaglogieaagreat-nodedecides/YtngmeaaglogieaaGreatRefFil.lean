/- What the reference's filter has in memory; Reckon's operations. -/
import Derived.Test.YtngmeaaglogieaaGreatNear83
import Derived.Test.YtngmeaaglogieaaGreatRefChain
namespace Go.Proofs.YtngmeaaglogieaaGreat
open Go.RowKit

theorem rAdd (b : Nat) (x : Bool) (a c : Int) (w : World) (ha : R64 a) (hc : R64 c) (h : RfAt w b x) : Calls Tryz.prog 64 #[.pointer (some ⟨b, 0, none⟩), .int .i64 a, .int .i64 c] w fun e w' =>
    e = .returned (.int .i64 (adV a c)) ∧ RfAt w' b (x || adB a c) ∧ Kept b w w' := rfAdd_ok b x a c w ha hc h
theorem rSub (b : Nat) (x : Bool) (a c : Int) (w : World) (ha : R64 a) (hc : R64 c) (h : RfAt w b x) : Calls Tryz.prog 63 #[.pointer (some ⟨b, 0, none⟩), .int .i64 a, .int .i64 c] w fun e w' =>
    e = .returned (.int .i64 (sbC a c)) ∧ RfAt w' b (x || sbE a c) ∧ Kept b w w' := rfSub_ok b x a c w ha hc h
theorem rMul (b : Nat) (x : Bool) (a c : Int) (w : World) (ha : R64 a) (hc : R64 c) (h : RfAt w b x) : Calls Tryz.prog 65 #[.pointer (some ⟨b, 0, none⟩), .int .i64 a, .int .i64 c] w fun e w' =>
    e = .returned (.int .i64 (muV a c)) ∧ RfAt w' b (x || muB a c) ∧ Kept b w w' := rfMul_ok b x a c w ha hc h

/-- The parameter, the answer's variable, the reckoner. -/
structure RG (w0 : World) (s : St) (x : Bool) (u : World) : Prop where
  src : SAt u w0.heap.size s
  res : SAt u (w0.heap.size + 1) St.nil
  rk : RfAt u (w0.heap.size + 1 + 1) x
  bel : Below w0.heap.size w0 u
theorem RG.kept {w0 u v : World} {s : St} {x y : Bool} (h : RG w0 s x u) (k : Kept (w0.heap.size + 1 + 1) u v) (b : RfAt v (w0.heap.size + 1 + 1) y) : RG w0 s y v :=
  ⟨h.src.kept k (by omega), h.res.kept k (by omega), b, below_of_kept h.bel k (by omega) h.bel.size⟩
theorem RG.below {w0 u v : World} {s : St} {x : Bool} (h : RG w0 s x u) (k : Below u.heap.size u v) : RG w0 s x v :=
  ⟨h.src.below k, h.res.below k, h.rk.below k, h.bel.trans (k.mono h.bel.size)⟩
theorem RG.drew {w0 u : World} {s : St} {x : Bool} (h : RG w0 s x u) : RG w0 s x u.drew := ⟨h.src, h.res, h.rk, below_drew h.bel⟩
theorem rg_start (w : World) (s : St) : ∃ v, v = ((w.alloc (.cells #[.int .i64 s.X, .int .i64 s.V, .int .i64 s.P00, .int .i64 s.P01, .int .i64 s.P11, .bool s.B, .int .i64 s.M] 25)).alloc (.cells #[.int .i64 0, .int .i64 0, .int .i64 0, .int .i64 0, .int .i64 0, .bool false, .int .i64 0] 25)).alloc (.cells #[.bool s.B] 113) ∧ RG w s s.B v := by
  obtain ⟨w2, e2, h2, g2, k2⟩ := two_state w s
  have z2 : w2.heap.size = w.heap.size + 1 + 1 := by rw [e2, al_size, al_size]
  have h3 := BlAt.new 113 w2 s.B
  rw [z2] at h3
  rw [← e2]
  have k3 := al_below w2 (.cells #[.bool s.B] 113)
  exact ⟨_, rfl, h2.below k3, g2.below k3, h3, k2.trans (k3.mono k2.size)⟩
/-- And the new state's variable. -/
structure RH (w0 : World) (bn : Nat) (s : St) (x : Bool) (n : St) (u : World) : Prop where
  g : RG w0 s x u
  nw : SAt u bn n
  lt : w0.heap.size + 1 + 1 < bn
theorem RH.kept {w0 u v : World} {bn : Nat} {s n : St} {x y : Bool} (h : RH w0 bn s x n u) (k : Kept (w0.heap.size + 1 + 1) u v) (b : RfAt v (w0.heap.size + 1 + 1) y) : RH w0 bn s y n v :=
  ⟨h.g.kept k b, h.nw.kept k (by have := h.lt; omega), h.lt⟩
theorem RH.drew {w0 u : World} {bn : Nat} {s n : St} {x : Bool} (h : RH w0 bn s x n u) : RH w0 bn s x n u.drew := ⟨h.g.drew, h.nw, h.lt⟩
theorem RH.put {w0 u v : World} {bn : Nat} {s n m : St} {x : Bool} (h : RH w0 bn s x n u) (k : Kept bn u v) (b : SAt v bn m) : RH w0 bn s x m v := by
  have := h.lt
  exact ⟨⟨h.g.src.kept k (by omega), h.g.res.kept k (by omega), h.g.rk.kept k (by omega), below_of_kept h.g.bel k (by omega) h.g.bel.size⟩, b, h.lt⟩
theorem rh_start {w0 u : World} {s : St} {x : Bool} (h : RG w0 s x u) : ∃ v, v = u.alloc (.cells #[.int .i64 s.X, .int .i64 s.V, .int .i64 s.P00, .int .i64 s.P01, .int .i64 s.P11, .bool s.B, .int .i64 s.M] 25) ∧ RH w0 u.heap.size s x s v := by
  obtain ⟨v, e, g, k, z⟩ := one_state u s
  exact ⟨v, e, h.below k, g, h.rk.lt⟩

end Go.Proofs.YtngmeaaglogieaaGreat
