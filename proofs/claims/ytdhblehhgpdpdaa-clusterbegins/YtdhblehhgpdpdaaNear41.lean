import Derived.Test.YtdhblehhgpdpdaaNear62
namespace Go.Proofs.Ytdhblehhgpdpdaa
open Go.RowKit
section
variable {P : Program}
structure OneC (P : Program) (ty : TypeId) : Prop where
 agg : ∀ w, (isAgg ty).run P w = .ok false w
 size : ∀ w, (sizeOf ty).run P w = .ok 1 w
theorem run_lod1 {f : Operand → Value} {o : Oper} (ty : TypeId) (x : Operand) (ho : o.op = .load ty x) {b k N cap : Nat} {t : TypeId} {g : Nat → Value} {v : Value} (T : OneC P ty) (hx : f x = .pointer (some ⟨b, k, none⟩)) {w : World} (hm : Vh t w b N cap g) (hn : k < N) (hv : g k = v) :
  (execOp f o).run P w = .ok (.value v) w := by
 have hc := hm.cell hn
 rw [hv] at hc
 unfold execOp
 simp only [ho, hx, Instr.loadAt, Instr.sureAddr, loadVar, Sem.run_bind, Sem.run_pure, Result.andThen_ok, T.agg]
 go_simp
theorem run_ixG {f : Operand → Value} {o : Oper} (s e : TypeId) (x y : Operand) (ho : o.op = .indexAddr s x y) {len n : Nat} (hu : P.underlying s = some (.array len e)) (hs : ∀ w, (sizeOf e).run P w = .ok n w) {b off i : Nat} {z : Int} (hx : f x = .pointer (some ⟨b, off, none⟩)) (hy : f y = .int .i64 z) (hz : z = (i : Int)) (hi : i < len) (w : World) :
  (execOp f o).run P w = .ok (.value (.pointer (some ⟨b, off + i * n, none⟩))) w := by
 subst hz
 have h2 : (i : Int) < (len : Int) := by omega
 unfold execOp
 simp only [ho, hx, hy, Instr.indexAt, asIntOf, Instr.sureAddr, Sem.run_bind, Sem.run_pure, Result.andThen_ok, run_underlying hu, add_at]
 simp [h2, hs]
theorem wp_boxG {o : Oper} {a : Act} {K : Act → World → Prop} {Q : Exit → Act → World → Prop} (w : World) (ty : TypeId) (x : Operand) (ho : o.op = .box ty x) {n : Nat} {f : Nat → Value} (hx : a.eval x = agV f 0 n) (hn : n ≤ maxLen)
  (h : ∀ w', Vh ty w' w.heap.size n n f → Below w.heap.size w w' → w'.heap.size = w.heap.size + 1 → K (a.put o.dst (.pointer (some ⟨w.heap.size, 0, none⟩))) w') : WpI P o a w K Q := by
 refine ⟨?_⟩
 have hh := h (w.alloc (.cells ((List.range n).map f).toArray ty)) (Vh.of_row f n hn (by show (w.heap.push _)[w.heap.size]? = _; rw [Array.getElem?_push_size])) (al_below _ _) (al_size _ _)
 unfold Oper.wp execOp
 simp only [ho, hx, Instr.box, newVar, newRow, newObj, agV, Value.cells, Nat.zero_add]
 go_simp
 exact hh
theorem wp_allocG {o : Oper} {a : Act} {K : Act → World → Prop} {Q : Exit → Act → World → Prop} (w : World) (ty : TypeId) (ho : o.op = .alloc ty) {n : Nat} {f : Nat → Value} (hz : ∀ w, (zeroValue ty).run P w = .ok (agV f 0 n) w) (hn : n ≤ maxLen)
  (h : ∀ w', Vh ty w' w.heap.size n n f → Below w.heap.size w w' → w'.heap.size = w.heap.size + 1 → K (a.put o.dst (.pointer (some ⟨w.heap.size, 0, none⟩))) w') : WpI P o a w K Q := by
 refine ⟨?_⟩
 have hh := h (w.alloc (.cells ((List.range n).map f).toArray ty)) (Vh.of_row f n hn (by show (w.heap.push _)[w.heap.size]? = _; rw [Array.getElem?_push_size])) (al_below _ _) (al_size _ _)
 unfold Oper.wp execOp
 simp only [ho, Instr.alloc, newVar, newRow, newObj, Sem.run_bind, hz, Result.andThen_ok, agV, Value.cells, Nat.zero_add]
 go_simp
 exact hh
end
end Go.Proofs.Ytdhblehhgpdpdaa
namespace Go.Proofs.Ytdhblehhgpdpdaa
open Go
def putL (A : Act) : List (Nat × Value) → Act
 | [] => A
 | (k, v) :: l => (putL A l).put (some k) v
def lookL (k : Nat) : List (Nat × Value) → Option Value
 | [] => none
 | (j, v) :: l => cond (Nat.beq j k) (some v) (lookL k l)
theorem szL (A : Act) (l : List (Nat × Value)) : (putL A l).tmps.size = A.tmps.size := by
 induction l with
 | nil => rfl
 | cons p l ih => exact (sz_put _ _ _).trans ih
theorem defL (A : Act) (l : List (Nat × Value)) : (putL A l).defers = A.defers := by
 induction l with
 | nil => rfl
 | cons p l ih => exact ih
theorem ev_in {A : Act} {l : List (Nat × Value)} {k : Nat} {v : Value} (h : lookL k l = some v) (hk : k < A.tmps.size) : (putL A l).eval (.tmp k) = v := by
 induction l with
 | nil => cases h
 | cons p l ih =>
  obtain ⟨j, u⟩ := p
  show ((putL A l).put (some j) u).eval (.tmp k) = v
  unfold lookL at h
  cases e : Nat.beq j k with
  | true =>
   rw [e] at h
   obtain rfl : j = k := Nat.eq_of_beq_eq_true e
   rw [ev_same _ _ _ (by rw [szL]; exact hk)]
   exact Option.some.inj h
  | false =>
   rw [e] at h
   rw [ev_other _ _ (Nat.ne_of_beq_eq_false e)]
   exact ih h
theorem ev_out {A : Act} {l : List (Nat × Value)} {k : Nat} {v : Value} (h : lookL k l = none) (hb : A.eval (.tmp k) = v) : (putL A l).eval (.tmp k) = v := by
 induction l with
 | nil => exact hb
 | cons p l ih =>
  obtain ⟨j, u⟩ := p
  show ((putL A l).put (some j) u).eval (.tmp k) = v
  unfold lookL at h
  cases e : Nat.beq j k with
  | true => rw [e] at h; cases h
  | false =>
   rw [e] at h
   rw [ev_other _ _ (Nat.ne_of_beq_eq_false e)]
   exact ih h
section
variable {P : Program} {ops : Array Oper} {Q : Exit → Act → World → Prop} {A : Act} {l : List (Nat × Value)} {w : World} {rest : List Oper} {o : Oper} {d : Nat} {v : Value}
theorem m_start {l' : List Oper} (h : LstI P ops Q l' (putL A []) w) : LstI P ops Q l' A w := h
theorem m_mv (hd : o.dst = some d) (hw : Region.wanted o (yielded ops (putL A l).tmps) = true) (hy : (execOp (putL A l).eval o).run P w = .ok (.value v) w) (h : LstI P ops Q rest (putL A ((d, v) :: l)) w) : LstI P ops Q (o :: rest) (putL A l) w :=
 l_mv hw hy (by rw [hd]; exact h)
theorem m_skip (hd : o.dst = some d) (hw : Region.wanted o (yielded ops (putL A l).tmps) = false) (h : LstI P ops Q rest (putL A ((d, undef) :: l)) w) : LstI P ops Q (o :: rest) (putL A l) w :=
 l_skip hw (by rw [hd]; exact h)
theorem m_do (hd : o.dst = some d) (hw : Region.wanted o (yielded ops (putL A l).tmps) = true) (h : ∀ K : Act → World → Prop, (∀ v w', LstI P ops Q rest (putL A ((d, v) :: l)) w' → K ((putL A l).put o.dst v) w') → WpI P o (putL A l) w K Q) : LstI P ops Q (o :: rest) (putL A l) w :=
 l_do hw (fun K hK => h K (fun v _ h1 => by rw [hd]; exact hK _ _ h1))
theorem m_st (hw : Region.wanted o (yielded ops (putL A l).tmps) = true) (h : ∀ K : Act → World → Prop, (∀ w', LstI P ops Q rest (putL A l) w' → K (putL A l) w') → WpI P o (putL A l) w K Q) : LstI P ops Q (o :: rest) (putL A l) w :=
 l_do hw (fun K hK => h K (fun _ h1 => hK _ _ h1))
theorem Ye {k : Nat} (h : lookL k l = some v) (hk : k < A.tmps.size := by omega) : (putL A l).eval (.tmp k) = v := ev_in h hk
theorem Yv {p : Prop} (h : p := by first | exact ev_in rfl (by omega) | exact ev_out rfl (by assumption) | exact ev_const _ _) : p := h
theorem Yq (hy : (execOp (putL A l).eval o).run P w = .ok (.value v) w) (h : LstI P ops Q rest (putL A ((d, v) :: l)) w) (hd : o.dst = some d := by rfl) (hw : Region.wanted o (yielded ops (putL A l).tmps) = true := by first | exact wanted_rd rfl | exact wanted_g rfl rfl rfl Yv) : LstI P ops Q (o :: rest) (putL A l) w := m_mv hd hw hy h
theorem Yp (h : LstI P ops Q rest (putL A ((d, v) :: l)) w) (hd : o.dst = some d := by rfl) (hw : Region.wanted o (yielded ops (putL A l).tmps) = true := by first | exact wanted_rd rfl | exact wanted_g rfl rfl rfl Yv) (hy : (execOp (putL A l).eval o).run P w = .ok (.value v) w := by first | exact run_move _ rfl Yv _ | exact run_assign _ rfl Yv _) : LstI P ops Q (o :: rest) (putL A l) w := m_mv hd hw hy h
theorem Yu (h : LstI P ops Q rest (putL A ((d, undef) :: l)) w) (hd : o.dst = some d := by rfl) (hw : Region.wanted o (yielded ops (putL A l).tmps) = false := by exact wanted_n rfl rfl rfl Yv (by decide)) : LstI P ops Q (o :: rest) (putL A l) w := m_skip hd hw h
variable {S : World → Prop} {late : Nat → Bool} {i : Nat} {r : PlanJ}
theorem j_mv (ho : ops[i]? = some o) (hd : o.dst = some d) (hQ : ∀ c a w, Q (.panic c) (a.put (some d) v) w → Q (.panic c) a w) (hw : Region.wanted o (yielded ops (putL A l).tmps) = true)
  (hy : ∀ w, (execOp (putL A l).eval o).run P w = .ok (.value v) w) (h : SeqJ P ops Q S late r (putL A ((d, v) :: l)) w) : SeqJ P ops Q S late (.mv i r) (putL A l) w :=
 sJ_mv ho (by rw [hd]; exact hQ) hw hy (by rw [hd]; exact h)
theorem j_rd (ho : ops[i]? = some o) (hd : o.dst = some d) (hQ : ∀ c a w, Q (.panic c) (a.put (some d) v) w → Q (.panic c) a w) (hw : Region.wanted o (yielded ops (putL A l).tmps) = true) (hS : S w)
  (hy : ∀ w, S w → (execOp (putL A l).eval o).run P w = .ok (.value v) w) (h : SeqJ P ops Q S late r (putL A ((d, v) :: l)) w) : SeqJ P ops Q S late (.rd i r) (putL A l) w :=
 sJ_read ho (by rw [hd]; exact hQ) hw hS hy (by rw [hd]; exact h)
theorem j_do (ho : ops[i]? = some o) (hd : o.dst = some d) (hw : Region.wanted o (yielded ops (putL A l).tmps) = true)
  (h : ∀ K : Act → World → Prop, (∀ v w', (late i = false → S w → S w') → SeqJ P ops Q S late r (putL A ((d, v) :: l)) w' → K ((putL A l).put o.dst v) w') → WpI P o (putL A l) w K Q) : SeqJ P ops Q S late (.go i r) (putL A l) w :=
 sJ_do ho hw (fun K hK => h K (fun v _ h1 h2 => by rw [hd]; exact hK _ _ h1 h2))
theorem j_st (ho : ops[i]? = some o) (hw : Region.wanted o (yielded ops (putL A l).tmps) = true)
  (h : ∀ K : Act → World → Prop, (∀ w', (late i = false → S w → S w') → SeqJ P ops Q S late r (putL A l) w' → K (putL A l) w') → WpI P o (putL A l) w K Q) : SeqJ P ops Q S late (.go i r) (putL A l) w :=
 sJ_do ho hw (fun K hK => h K (fun _ h1 h2 => hK _ _ h1 h2))
theorem Yk (ho : ops[i]? = some o) (hy : ∀ w, (execOp (putL A l).eval o).run P w = .ok (.value v) w) (h : SeqJ P ops Q S late r (putL A ((d, v) :: l)) w) (hd : o.dst = some d := by rfl) (hQ : ∀ c a w, Q (.panic c) (a.put (some d) v) w → Q (.panic c) a w := by exact fun _ _ _ h => h) (hw : Region.wanted o (yielded ops (putL A l).tmps) = true := by first | exact wanted_rd rfl | exact wanted_g rfl rfl rfl Yv) : SeqJ P ops Q S late (.mv i r) (putL A l) w := j_mv ho hd hQ hw hy h
theorem Yj (h : SeqJ P ops Q S late r (putL A ((d, v) :: l)) w) (ho : ops[i]? = some o := by rfl) (hd : o.dst = some d := by rfl) (hQ : ∀ c a w, Q (.panic c) (a.put (some d) v) w → Q (.panic c) a w := by exact fun _ _ _ h => h) (hw : Region.wanted o (yielded ops (putL A l).tmps) = true := by first | exact wanted_rd rfl | exact wanted_g rfl rfl rfl Yv) (hy : ∀ w, (execOp (putL A l).eval o).run P w = .ok (.value v) w := by first | exact fun _ => run_move _ rfl Yv _ | exact fun _ => run_assign _ rfl Yv _) : SeqJ P ops Q S late (.mv i r) (putL A l) w := j_mv ho hd hQ hw hy h
theorem Yr (ho : ops[i]? = some o) (hS : S w) (hy : ∀ w, S w → (execOp (putL A l).eval o).run P w = .ok (.value v) w) (h : SeqJ P ops Q S late r (putL A ((d, v) :: l)) w) (hd : o.dst = some d := by rfl) (hQ : ∀ c a w, Q (.panic c) (a.put (some d) v) w → Q (.panic c) a w := by exact fun _ _ _ h => h) (hw : Region.wanted o (yielded ops (putL A l).tmps) = true := by first | exact wanted_rd rfl | exact wanted_g rfl rfl rfl Yv) : SeqJ P ops Q S late (.rd i r) (putL A l) w := j_rd ho hd hQ hw hS hy h
theorem j_two {j : Nat} {r' : PlanJ} (h : SeqJ P ops Q S late (.go i r) (putL A l) w) (h' : SeqJ P ops Q S late (.go j r') (putL A l) w) : SeqJ P ops Q S late (.two i j r r') (putL A l) w := ⟨⟨h.out, h'.out⟩⟩
end
end Go.Proofs.Ytdhblehhgpdpdaa
