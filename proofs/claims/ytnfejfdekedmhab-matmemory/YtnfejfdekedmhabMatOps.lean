/- Contracts of a matrix at work: note, add, sub, mul, div, at, put, row. -/
import Derived.Test.YtnfejfdekedmhabMatPlain
import Derived.Test.YtnfejfdekedmhabFixMul
namespace Go.Proofs.Ytnfejfdekedmhab
open Go.RowKit

theorem kept_drewN {z : Nat} (w : World) (k : Nat) : Kept z w (w.drewN k) := ⟨rfl, rfl, rfl, Nat.le_refl _, fun _ _ _ => rfl⟩
theorem mw_drewN {w : World} {b n r cap : Nat} {g : Nat → Int} {x : Bool} (h : MW w b n r cap g x) (k : Nat) : MW (w.drewN k) b n r cap g x := h.same rfl rfl
theorem mw_drew {w : World} {b n r cap : Nat} {g : Nat → Int} {x : Bool} (h : MW w b n r cap g x) : MW w.drew b n r cap g x := h.same rfl rfl

set_option maxHeartbeats 400000 in
theorem wkNote_any (b n r cap : Nat) (g : Nat → Int) (x : Bool) (a : Int) (y : Bool) (w : World) (h : MW w b n r cap g x) :
    Calls Try.prog 38 #[.pointer (some ⟨b, 0, none⟩), .int .i64 a, .bool y] w fun e w' =>
      e = .returned (.int .i64 a) ∧ MW w' b n r cap g (x || y) ∧ Kept b w w' := by
  have c2 := h.wk.cell2; have f2 := h.wk.free 2
  have H := hide h
  clear h
  cases x
  · go_enter Try.func38, Try.ntmps38
    go_wp2_with fail
    go_ret
    exact ⟨rfl, (unhide H).bend _, kept_set _ _ _ _⟩
  · go_enter Try.func38, Try.ntmps38
    go_wp2_with fail
    go_ret
    exact ⟨rfl, (unhide H).bend _, kept_set _ _ _ _⟩

set_option maxHeartbeats 400000 in
theorem wkAdd_any (b n r cap : Nat) (g : Nat → Int) (x : Bool) (a c : Int) (w : World) (ha : R64 a) (hc : R64 c) (h : MW w b n r cap g x) :
    Calls Try.prog 33 #[.pointer (some ⟨b, 0, none⟩), .int .i64 a, .int .i64 c] w fun e w' =>
      e = .returned (.int .i64 (clampZ (a + c))) ∧ MW w' b n r cap g (x || bentZ (a + c)) ∧ Kept b w w' := by
  have HA := hide ha; have HC := hide hc; have H := hide h
  clear ha hc h
  go_enter Try.func33, Try.ntmps33
  go_wp2_with fail
  refine (add_any a c (unhide HA) (unhide HC) _).mono ?_
  rintro e w1 ⟨rfl, rfl⟩
  go_wp2_with fail
  refine (wkNote_any b n r cap g x _ _ _ (unhide H)).mono ?_
  rintro e w2 ⟨rfl, h1, h2⟩
  have H1 := hide h1; have H2 := hide h2
  clear h1 h2
  go_wp2_with fail
  go_ret
  exact ⟨rfl, unhide H1, unhide H2⟩

set_option maxHeartbeats 400000 in
theorem wkSub_any (b n r cap : Nat) (g : Nat → Int) (x : Bool) (a c : Int) (w : World) (ha : R64 a) (hc : R64 c) (h : MW w b n r cap g x) :
    Calls Try.prog 37 #[.pointer (some ⟨b, 0, none⟩), .int .i64 a, .int .i64 c] w fun e w' =>
      e = .returned (.int .i64 (clampZ (a - c))) ∧ MW w' b n r cap g (x || bentZ (a - c)) ∧ Kept b w w' := by
  have HA := hide ha; have HC := hide hc; have H := hide h
  clear ha hc h
  go_enter Try.func37, Try.ntmps37
  go_wp2_with fail
  refine (sub_any a c (unhide HA) (unhide HC) _).mono ?_
  rintro e w1 ⟨rfl, rfl⟩
  go_wp2_with fail
  refine (wkNote_any b n r cap g x _ _ _ (unhide H)).mono ?_
  rintro e w2 ⟨rfl, h1, h2⟩
  have H1 := hide h1; have H2 := hide h2
  clear h1 h2
  go_wp2_with fail
  go_ret
  exact ⟨rfl, unhide H1, unhide H2⟩

set_option maxHeartbeats 400000 in
theorem wkMul_any (b n r cap : Nat) (g : Nat → Int) (x : Bool) (a c : Int) (w : World) (ha : R64 a) (hc : R64 c) (h : MW w b n r cap g x) :
    Calls Try.prog 34 #[.pointer (some ⟨b, 0, none⟩), .int .i64 a, .int .i64 c] w fun e w' =>
      e = .returned (.int .i64 (clampZ (mulQ a c))) ∧ MW w' b n r cap g (x || bentZ (mulQ a c)) ∧ Kept b w w' := by
  have HA := hide ha; have HC := hide hc; have H := hide h
  clear ha hc h
  go_enter Try.func34, Try.ntmps34
  go_wp2_with fail
  refine (mul_any a c (unhide HA) (unhide HC) _).mono ?_
  rintro e w1 ⟨rfl, rfl⟩
  go_wp2_with fail
  refine (wkNote_any b n r cap g x _ _ _ (unhide H)).mono ?_
  rintro e w2 ⟨rfl, h1, h2⟩
  have H1 := hide h1; have H2 := hide h2
  clear h1 h2
  go_wp2_with fail
  go_ret
  exact ⟨rfl, unhide H1, unhide H2⟩

set_option maxHeartbeats 400000 in
theorem wkDiv_any (b n r cap : Nat) (g : Nat → Int) (x : Bool) (a c : Int) (w : World) (ha : R64 a) (hc : R64 c) (h : MW w b n r cap g x) :
    Calls Try.prog 36 #[.pointer (some ⟨b, 0, none⟩), .int .i64 a, .int .i64 c] w fun e w' =>
      e = .returned (.int .i64 (divV a c)) ∧ MW w' b n r cap g (x || divB a c) ∧ Kept b w w' := by
  have HA := hide ha; have HC := hide hc; have H := hide h
  clear ha hc h
  go_enter Try.func36, Try.ntmps36
  go_wp2_with fail
  refine (div_any a c (unhide HA) (unhide HC) _).mono ?_
  rintro e w1 ⟨kk, rfl, rfl⟩
  go_wp2_with fail
  refine (wkNote_any b n r cap g x _ _ _ (mw_drewN (unhide H) kk)).mono ?_
  rintro e w2 ⟨rfl, h1, h2⟩
  have H1 := hide h1; have H2 := hide h2
  clear h1 h2
  go_wp2_with fail
  go_ret
  exact ⟨rfl, unhide H1, (kept_drewN w kk).trans (unhide H2) (Or.inl rfl)⟩

set_option maxHeartbeats 400000 in
theorem wkAt_core (b n r cap len i k q : Nat) (z : Int) (w : World) (c0 : w.cell? ⟨b, 0, none⟩ = some (.int .i64 (n : Int))) (c1 : w.cell? ⟨b, 1, none⟩ = some (.slice (some ⟨r, 0, none⟩) len cap))
    (cr : w.cell? ⟨r, q + k, none⟩ = some (.int .i64 z)) (wq : IntKind.i64.wrap ((i : Int) * (n : Int)) = (q : Int)) (hl : q + k < len) (hs : len ≤ 36) :
    Calls Try.prog 31 #[.pointer (some ⟨b, 0, none⟩), .int .i64 (i : Int), .int .i64 (k : Int)] w fun e w' =>
      e = .returned (.int .i64 z) ∧ w' = w.drew := by
  have wi : IntKind.i64.wrap ((q : Int) + (k : Int)) = (q : Int) + (k : Int) := by rw [IntKind.wrap_i64]; omega
  go_enter Try.func31, Try.ntmps31
  go_wp2_with fail
  go_region
  go_wp2_with fail
  go_ret
  exact ⟨rfl, rfl⟩
theorem wrap_sq {n i : Nat} (hn : n ≤ 6) (hi : i ≤ 6) : IntKind.i64.wrap ((i : Int) * (n : Int)) = ((i * n : Nat) : Int) := by
  have h := Nat.mul_le_mul hi hn
  rw [show (i : Int) * (n : Int) = ((i * n : Nat) : Int) from (Int.natCast_mul i n).symm]
  generalize i * n = q at *
  rw [IntKind.wrap_i64]; omega
theorem wkAt_any (b n r cap i k : Nat) (g : Nat → Int) (x : Bool) (w : World) (hi : i < n) (hk : k < n) (h : MW w b n r cap g x) :
    Calls Try.prog 31 #[.pointer (some ⟨b, 0, none⟩), .int .i64 (i : Int), .int .i64 (k : Int)] w fun e w' =>
      e = .returned (.int .i64 (g (i * n + k))) ∧ w' = w.drew :=
  wkAt_core b n r cap (n * n) i k (i * n) _ w h.wk.cell0 h.wk.cell1 (h.row.cell (idx_lt hi hk)) (wrap_sq h.n6 (by have := h.n6; omega)) (idx_lt hi hk) (sq_le h.n6)

set_option maxHeartbeats 400000 in
theorem wkPut_core (b n r cap len i k q : Nat) (z y : Int) (w : World) (c0 : w.cell? ⟨b, 0, none⟩ = some (.int .i64 (n : Int))) (c1 : w.cell? ⟨b, 1, none⟩ = some (.slice (some ⟨r, 0, none⟩) len cap))
    (cr : w.cell? ⟨r, q + k, none⟩ = some (.int .i64 z)) (fr : w.frozen? ⟨r, q + k, none⟩ = false) (wq : IntKind.i64.wrap ((i : Int) * (n : Int)) = (q : Int)) (hl : q + k < len) (hs : len ≤ 36) :
    Calls Try.prog 32 #[.pointer (some ⟨b, 0, none⟩), .int .i64 (i : Int), .int .i64 (k : Int), .int .i64 y] w fun e w' =>
      e = .returned (.tuple #[]) ∧ w' = w.drew.setCell ⟨r, q + k, none⟩ (.int .i64 y) := by
  have wi : IntKind.i64.wrap ((q : Int) + (k : Int)) = (q : Int) + (k : Int) := by rw [IntKind.wrap_i64]; omega
  go_enter Try.func32, Try.ntmps32
  go_wp2_with fail
  go_region
  go_wp2_with fail
  go_end0
  exact ⟨rfl, rfl⟩
theorem wkPut_any (b n r cap i k : Nat) (g : Nat → Int) (x : Bool) (y : Int) (w : World) (hi : i < n) (hk : k < n) (hy : R64 y) (h : MW w b n r cap g x) :
    Calls Try.prog 32 #[.pointer (some ⟨b, 0, none⟩), .int .i64 (i : Int), .int .i64 (k : Int), .int .i64 y] w fun e w' =>
      e = .returned (.tuple #[]) ∧ MW w' b n r cap (stF g (i * n + k) y) x ∧ Kept r w w' := by
  refine (wkPut_core b n r cap (n * n) i k (i * n) _ y w h.wk.cell0 h.wk.cell1 (h.row.cell (idx_lt hi hk)) (h.row.free _) (wrap_sq h.n6 (by have := h.n6; omega)) (idx_lt hi hk) (sq_le h.n6)).mono ?_
  rintro e w' ⟨rfl, rfl⟩
  exact ⟨rfl, (mw_drew h).put _ hy, (kept_drew w).trans (kept_set _ _ _ _) (Or.inl rfl)⟩

set_option maxHeartbeats 400000 in
theorem wkRow_core (b n r cap len i q q2 : Nat) (w : World) (c0 : w.cell? ⟨b, 0, none⟩ = some (.int .i64 (n : Int))) (c1 : w.cell? ⟨b, 1, none⟩ = some (.slice (some ⟨r, 0, none⟩) len cap))
    (wq : IntKind.i64.wrap ((i : Int) * (n : Int)) = (q : Int)) (wq2 : IntKind.i64.wrap (((i : Int) + 1) * (n : Int)) = (q2 : Int)) (hq : q < q2) (hl : q2 ≤ len) (hc : len ≤ cap) (hi6 : i ≤ 6) :
    Calls Try.prog 24 #[.pointer (some ⟨b, 0, none⟩), .int .i64 (i : Int)] w fun e w' =>
      e = .returned (.slice (some ⟨r, q, none⟩) (q2 - q) (cap - q)) ∧ w' = w.drew := by
  have wi : IntKind.i64.wrap ((i : Int) + 1) = (i : Int) + 1 := by rw [IntKind.wrap_i64]; omega
  go_enter Try.func24, Try.ntmps24
  go_wp2_with fail
  go_region
  go_wp2_with fail
  go_ret
  exact ⟨rfl, rfl⟩

theorem wkRow_any (b n r cap i : Nat) (g : Nat → Int) (x : Bool) (w : World) (hi : i < n) (h : MW w b n r cap g x) :
    Calls Try.prog 24 #[.pointer (some ⟨b, 0, none⟩), .int .i64 (i : Int)] w fun e w' =>
      e = .returned (.slice (some ⟨r, i * n, none⟩) n (cap - i * n)) ∧ w' = w.drew := by
  have h2 : i * n + n ≤ n * n := by
    have := Nat.mul_le_mul_right n (show i + 1 ≤ n from hi)
    rw [Nat.add_mul, Nat.one_mul] at this
    exact this
  have e2 : IntKind.i64.wrap (((i : Int) + 1) * (n : Int)) = ((i * n + n : Nat) : Int) := by
    have := wrap_sq h.n6 (show i + 1 ≤ 6 by have := h.n6; omega)
    rw [Nat.add_mul, Nat.one_mul] at this
    exact this
  have := wkRow_core b n r cap (n * n) i (i * n) (i * n + n) w h.wk.cell0 h.wk.cell1 (wrap_sq h.n6 (by have := h.n6; omega)) e2 (by have := h.n1; omega) h2 h.row.fit (by have := h.n6; omega)
  rw [Nat.add_sub_cancel_left] at this
  exact this

end Go.Proofs.Ytnfejfdekedmhab
