/- Contracts of package filter's face: Begin, Predict, Update, Step. -/
import Derived.Test.YtblglojbghmphaaFilPred
import Derived.Test.YtblglojbghmphaaFilUpd
namespace Go.Proofs.Ytblglojbghmphaa
open Go.RowKit

/-- What Begin answers. -/
def begS (x : Int) : St := ⟨x, 0, 4294967296, 0, 4294967296, false, 0⟩
theorem R64_one : R64 4294967296 := by unfold R64; omega
theorem begS_ok {x : Int} (h : R64 x) : (begS x).Ok := ⟨h, R64_nought, R64_one, R64_nought, R64_one, R64_nought⟩

theorem one_state (w : World) (s : St) : ∃ w1, w1 = w.alloc (.cells #[.int .i64 s.X, .int .i64 s.V, .int .i64 s.P00, .int .i64 s.P01, .int .i64 s.P11, .bool s.B, .int .i64 s.M] 23) ∧ SAt w1 w.heap.size s ∧ Below w.heap.size w w1 ∧ w1.heap.size = w.heap.size + 1 :=
  ⟨_, rfl, SAt.new w s, al_below w _, al_size w _⟩
/-- A state's variable and that of an answer. -/
theorem two_state (w : World) (s : St) : ∃ w2, w2 = (w.alloc (.cells #[.int .i64 s.X, .int .i64 s.V, .int .i64 s.P00, .int .i64 s.P01, .int .i64 s.P11, .bool s.B, .int .i64 s.M] 23)).alloc (.cells #[.int .i64 0, .int .i64 0, .int .i64 0, .int .i64 0, .int .i64 0, .bool false, .int .i64 0] 23) ∧
    SAt w2 w.heap.size s ∧ SAt w2 (w.heap.size + 1) St.nil ∧ Below w.heap.size w w2 := by
  obtain ⟨w1, e1, h1, k1, z1⟩ := one_state w s
  obtain ⟨w2, e2, h2, k2, z2⟩ := one_state w1 St.nil
  rw [z1] at h2
  exact ⟨w2, by rw [e2, e1]; rfl, h1.below k2, h2, k1.trans (k2.mono k1.size)⟩

set_option maxHeartbeats 400000 in
theorem begin_any (x : Int) (w : World) :
    Calls Try.prog 9 #[.int .i64 x] w fun e w' => e = .returned (stV (begS x)) ∧ Below w.heap.size w w' := by
  go_enter Try.func9, Try.ntmps9
  go_wp2_with fail
  refine bodyPost_ret (v := stV (begS x)) (by simp [results, Try.results9, go_sem, begS]) rfl ⟨rfl, al_below w _⟩

set_option maxHeartbeats 400000 in
theorem predict_any (s : St) (dt q : Int) (w : World) (hs : s.Ok) (hdt : R64 dt) (hq : R64 q) :
    Calls Try.prog 11 #[stV s, .int .i64 dt, .int .i64 q] w fun e w' => e = .returned (stV (predS s dt q)) ∧ Below w.heap.size w w' := by
  obtain ⟨w2, e2, h2, g2, k2⟩ := two_state w s
  have OK := hide hs; have RD := hide hdt; have RQ := hide hq; have E2 := hide e2; have H2 := hide h2; have G2 := hide g2; have K2 := hide k2
  clear hs hdt hq e2 h2 g2 k2
  go_enter Try.func11, Try.ntmps11
  go_wp2_with fail
  rw [← unhide E2]
  refine (hPredict_any w.heap.size s dt q _ (unhide OK) (unhide RD) (unhide RQ) (unhide H2)).mono ?_
  rintro e w3 ⟨rfl, h3, k3⟩
  have g3 := (unhide G2).kept k3 (by omega)
  have K3 := hide (below_of_kept (unhide K2) k3 (Nat.le_refl _) (unhide K2).size)
  obtain ⟨t, et⟩ : ∃ t, t = predS s dt q := ⟨_, rfl⟩
  rw [← et] at h3
  have ET := hide et
  have c0 := h3.c0; have c1 := h3.c1; have c2 := h3.c2; have c3 := h3.c3; have c4 := h3.c4; have c5 := h3.c5; have c6 := h3.c6
  have b0 := g3.c0; have b1 := g3.c1; have b2 := g3.c2; have b3 := g3.c3; have b4 := g3.c4; have b5 := g3.c5; have b6 := g3.c6
  have f0 := g3.free 0; have f1 := g3.free 1; have f2 := g3.free 2; have f3 := g3.free 3; have f4 := g3.free 4; have f5 := g3.free 5; have f6 := g3.free 6
  obtain ⟨w4, e4, h4, k4⟩ := g3.put t
  have E4 := hide e4; have H4 := hide h4; have K4 := hide (below_of_kept (unhide K3) k4 (by omega) (unhide K3).size)
  clear h3 k3 g3 et e4 h4 k4
  go_wp2_with fail
  rw [← unhide E4]
  have p0 := (unhide H4).c0; have p1 := (unhide H4).c1; have p2 := (unhide H4).c2; have p3 := (unhide H4).c3; have p4 := (unhide H4).c4; have p5 := (unhide H4).c5; have p6 := (unhide H4).c6
  refine bodyPost_ret (v := stV t) (by simp [results, Try.results11, go_sem, p0, p1, p2, p3, p4, p5, p6]) rfl ⟨by rw [unhide ET], unhide K4⟩

set_option maxHeartbeats 400000 in
theorem update_any (s : St) (z r gate : Int) (w : World) (hs : s.Ok) (hz : R64 z) (hr : R64 r) (hg : R64 gate) :
    Calls Try.prog 13 #[stV s, .int .i64 z, .int .i64 r, .int .i64 gate] w fun e w' => e = .returned (.tuple #[stV (updS s z r gate), .bool (updT s z r gate)]) ∧ Below w.heap.size w w' := by
  obtain ⟨w2, e2, h2, g2, k2⟩ := two_state w s
  have OK := hide hs; have RZ := hide hz; have RR := hide hr; have RG := hide hg; have E2 := hide e2; have H2 := hide h2; have G2 := hide g2; have K2 := hide k2
  clear hs hz hr hg e2 h2 g2 k2
  go_enter Try.func13, Try.ntmps13
  go_wp2_with fail
  rw [← unhide E2]
  refine (hUpdate_any w.heap.size s z r gate _ (unhide OK) (unhide RZ) (unhide RR) (unhide RG) (unhide H2)).mono ?_
  rintro e w3 ⟨rfl, h3, k3⟩
  have g3 := (unhide G2).kept k3 (by omega)
  have K3 := hide (below_of_kept (unhide K2) k3 (Nat.le_refl _) (unhide K2).size)
  obtain ⟨t, et⟩ : ∃ t, t = updS s z r gate := ⟨_, rfl⟩
  obtain ⟨tk, ek⟩ : ∃ tk, tk = updT s z r gate := ⟨_, rfl⟩
  rw [← et] at h3
  rw [← ek]
  have ET := hide et; have EK := hide ek
  have c0 := h3.c0; have c1 := h3.c1; have c2 := h3.c2; have c3 := h3.c3; have c4 := h3.c4; have c5 := h3.c5; have c6 := h3.c6
  have b0 := g3.c0; have b1 := g3.c1; have b2 := g3.c2; have b3 := g3.c3; have b4 := g3.c4; have b5 := g3.c5; have b6 := g3.c6
  have f0 := g3.free 0; have f1 := g3.free 1; have f2 := g3.free 2; have f3 := g3.free 3; have f4 := g3.free 4; have f5 := g3.free 5; have f6 := g3.free 6
  obtain ⟨w4, e4, h4, k4⟩ := g3.put t
  have E4 := hide e4; have H4 := hide h4; have K4 := hide (below_of_kept (unhide K3) k4 (by omega) (unhide K3).size)
  clear h3 k3 g3 et ek e4 h4 k4
  go_wp2_with fail
  rw [← unhide E4]
  have p0 := (unhide H4).c0; have p1 := (unhide H4).c1; have p2 := (unhide H4).c2; have p3 := (unhide H4).c3; have p4 := (unhide H4).c4; have p5 := (unhide H4).c5; have p6 := (unhide H4).c6
  refine bodyPost_ret (v := .tuple #[stV t, .bool tk]) (by simp [results, Try.results13, go_sem, p0, p1, p2, p3, p4, p5, p6]) rfl ⟨by rw [unhide ET, unhide EK], unhide K4⟩

/-- A tuning's variable. -/
def TAt (w : World) (b : Nat) (t : Tn) : Prop := w.heap[b]? = some (.cells #[.int .i64 t.Dt, .int .i64 t.Q, .int .i64 t.R, .int .i64 t.G] 32 (0, 0))
theorem TAt.c0 {w : World} {b : Nat} {t : Tn} (h : TAt w b t) : w.cell? ⟨b, 0, none⟩ = some (.int .i64 t.Dt) := by
  unfold TAt at h; unfold World.cell?; rw [h]; rfl
theorem TAt.c1 {w : World} {b : Nat} {t : Tn} (h : TAt w b t) : w.cell? ⟨b, 1, none⟩ = some (.int .i64 t.Q) := by
  unfold TAt at h; unfold World.cell?; rw [h]; rfl
theorem TAt.c2 {w : World} {b : Nat} {t : Tn} (h : TAt w b t) : w.cell? ⟨b, 2, none⟩ = some (.int .i64 t.R) := by
  unfold TAt at h; unfold World.cell?; rw [h]; rfl
theorem TAt.c3 {w : World} {b : Nat} {t : Tn} (h : TAt w b t) : w.cell? ⟨b, 3, none⟩ = some (.int .i64 t.G) := by
  unfold TAt at h; unfold World.cell?; rw [h]; rfl
theorem TAt.lt {w : World} {b : Nat} {t : Tn} (h : TAt w b t) : b < w.heap.size := lt_of_block h
theorem TAt.same {w w' : World} {b : Nat} {t : Tn} (h : TAt w b t) (e : w'.heap[b]? = w.heap[b]?) : TAt w' b t := e.trans h
theorem TAt.below {w w' : World} {b : Nat} {t : Tn} (h : TAt w b t) (k : Below w.heap.size w w') : TAt w' b t := h.same (k.block b h.lt)
theorem TAt.kept {z : Nat} {w w' : World} {b : Nat} {t : Tn} (h : TAt w b t) (k : Kept z w w') (hz : b ≠ z) : TAt w' b t := h.same (k.block b h.lt hz)
theorem TAt.new (w : World) (t : Tn) : TAt (w.alloc (.cells #[.int .i64 t.Dt, .int .i64 t.Q, .int .i64 t.R, .int .i64 t.G] 32)) w.heap.size t := by
  unfold TAt
  show (w.heap.push _)[w.heap.size]? = _
  rw [Array.getElem?_push_size]
/-- A state's and a tuning's variable. -/
structure ST (bs bt : Nat) (s : St) (t : Tn) (w : World) : Prop where
  st : SAt w bs s
  tn : TAt w bt t
theorem ST.below {bs bt : Nat} {s : St} {t : Tn} {w w' : World} (h : ST bs bt s t w) (k : Below w.heap.size w w') : ST bs bt s t w' := ⟨h.st.below k, h.tn.below k⟩
theorem ST.kept {z bs bt : Nat} {s : St} {t : Tn} {w w' : World} (h : ST bs bt s t w) (k : Kept z w w') (n1 : bs ≠ z) (n2 : bt ≠ z) : ST bs bt s t w' := ⟨h.st.kept k n1, h.tn.kept k n2⟩
theorem ST.drew {bs bt : Nat} {s : St} {t : Tn} {w : World} (h : ST bs bt s t w) : ST bs bt s t w.drew := ⟨h.st, h.tn⟩
theorem step_start (w : World) (s : St) (t : Tn) : ∃ w3, w3 = ((w.alloc (.cells #[.int .i64 s.X, .int .i64 s.V, .int .i64 s.P00, .int .i64 s.P01, .int .i64 s.P11, .bool s.B, .int .i64 s.M] 23)).alloc (.cells #[.int .i64 t.Dt, .int .i64 t.Q, .int .i64 t.R, .int .i64 t.G] 32)).alloc (.cells #[.int .i64 0, .int .i64 0, .int .i64 0, .int .i64 0, .int .i64 0, .bool false, .int .i64 0] 23) ∧
    ST w.heap.size (w.heap.size + 1) s t w3 ∧ SAt w3 (w.heap.size + 1 + 1) St.nil ∧ Below w.heap.size w w3 := by
  obtain ⟨w1, e1, h1, k1, z1⟩ := one_state w s
  have h2 := TAt.new w1 t
  have k2 := al_below w1 (.cells #[.int .i64 t.Dt, .int .i64 t.Q, .int .i64 t.R, .int .i64 t.G] 32)
  have z2 := al_size w1 (.cells #[.int .i64 t.Dt, .int .i64 t.Q, .int .i64 t.R, .int .i64 t.G] 32)
  rw [z1] at h2 z2
  rw [← e1]
  generalize w1.alloc (.cells #[.int .i64 t.Dt, .int .i64 t.Q, .int .i64 t.R, .int .i64 t.G] 32) = w2 at *
  obtain ⟨w3, e3, h3, k3, z3⟩ := one_state w2 St.nil
  rw [z2] at h3
  have kk := k1.trans (k2.mono k1.size)
  exact ⟨w3, e3, ⟨(h1.below k2).below k3, h2.below k3⟩, h3, kk.trans (k3.mono kk.size)⟩

set_option maxHeartbeats 1000000 in
theorem step_any (s : St) (t : Tn) (z : Int) (w : World) (hs : s.Ok) (ht : t.Ok) (hz : R64 z) :
    Calls Try.prog 15 #[stV s, tnV t, .int .i64 z] w fun e w' => e = .returned (.tuple #[stV (stepS s t z), .bool (stepT s t z)]) ∧ Below w.heap.size w w' := by
  obtain ⟨w1, e1, d1, g1, k1⟩ := step_start w s t
  have OK := hide hs; have OT := hide ht; have RZ := hide hz; have E1 := hide e1; have G1 := hide g1; have K1 := hide k1
  have hS1 : ST w.heap.size (w.heap.size + 1) s t w1.drew := d1.drew
  clear hs ht hz e1 d1 g1 k1
  go_enter Try.func15, Try.ntmps15
  go_wp2_with fail
  rw [← unhide E1]
  refine region_by (S := ST w.heap.size (w.heap.size + 1) s t) [(0, false), (1, false), (2, false), (3, false), (4, false), (6, false), (7, false), (8, false), (9, false), (10, false), (5, true), (11, true), (12, false), (13, false), (14, true), (15, true)] [] (by kernel_rfl) (by kernel_rfl) ?_
  iterate 10
    refine seq_read (v := ?_) rfl (fun _ _ _ h => h) (by rfl) hS1 ?_ ?_
    rotate_left 1
    · intro wx hwx
      have q0 := hwx.tn.c0; have q1 := hwx.tn.c1; have q2 := hwx.tn.c2; have q3 := hwx.tn.c3
      have c0 := hwx.st.c0; have c1 := hwx.st.c1; have c2 := hwx.st.c2; have c3 := hwx.st.c3; have c4 := hwx.st.c4; have c5 := hwx.st.c5; have c6 := hwx.st.c6
      clear hwx
      go_simp <;> exact rfl
    go_frame
  refine seq_do rfl (fun K hK => ?_)
  go_simp
  refine (predict_any s t.Dt t.Q _ (unhide OK) (unhide OT).Dt (unhide OT).Q).mono ?_
  rintro e w2 ⟨rfl, k⟩
  have hS2 := hS1.below k
  refine hK _ _ (fun _ => hS2) ?_
  have G2 := hide (SAt.below (w := w1.drew) (unhide G1) k); have K2 := hide ((below_drew (unhide K1)).trans (k.mono (unhide K1).size))
  clear hK K hS1 k G1 K1
  refine seq_do rfl (fun K hK => ?_)
  go_simp
  refine (update_any (predS s t.Dt t.Q) z t.R t.G _ (predS_ok (unhide OK) _ _) (unhide RZ) (unhide OT).R (unhide OT).G).mono ?_
  rintro e w3 ⟨rfl, k⟩
  have hS3 := hS2.below k
  refine hK _ _ (fun _ => hS3) ?_
  have G3 := hide ((unhide G2).below k); have K3 := hide ((unhide K2).trans (k.mono (unhide K2).size))
  clear hK K hS2 k G2 K2
  rw [show updS (predS s t.Dt t.Q) z t.R t.G = stepS s t z from rfl, show updT (predS s t.Dt t.Q) z t.R t.G = stepT s t z from rfl]
  obtain ⟨p, ep⟩ : ∃ p, p = stepS s t z := ⟨_, rfl⟩
  obtain ⟨tk, ek⟩ : ∃ tk, tk = stepT s t z := ⟨_, rfl⟩
  rw [← ep, ← ek]
  have EP := hide ep; have EK := hide ek
  clear ep ek
  iterate 2
    refine seq_read (v := ?_) rfl (fun _ _ _ h => h) (by rfl) hS3 ?_ ?_
    rotate_left 1
    · intro wx hwx
      clear hwx
      go_simp <;> exact rfl
    go_frame
  have b0 := (unhide G3).c0; have b1 := (unhide G3).c1; have b2 := (unhide G3).c2; have b3 := (unhide G3).c3; have b4 := (unhide G3).c4; have b5 := (unhide G3).c5; have b6 := (unhide G3).c6
  have f0 := (unhide G3).free 0; have f1 := (unhide G3).free 1; have f2 := (unhide G3).free 2; have f3 := (unhide G3).free 3; have f4 := (unhide G3).free 4; have f5 := (unhide G3).free 5; have f6 := (unhide G3).free 6
  obtain ⟨w4, e4, h4, k4⟩ := (unhide G3).put p
  refine seq_do rfl (fun K hK => ?_)
  go_simp
  rw [← e4]
  have hS4 := hS3.kept k4 (by omega) (by omega)
  refine hK _ _ (fun _ => hS4) ?_
  have G4 := hide h4; have K4 := hide (below_of_kept (unhide K3) k4 (by omega) (unhide K3).size)
  clear hK K b0 b1 b2 b3 b4 b5 b6 f0 f1 f2 f3 f4 f5 f6 e4 h4 k4 hS3 G3 K3
  refine seq_do rfl (fun K hK => ?_)
  go_simp
  refine hK _ _ (fun _ => hS4) ?_
  clear hK K hS4
  refine seq_end ?_
  go_wp2_with fail
  have p0 := (unhide G4).c0; have p1 := (unhide G4).c1; have p2 := (unhide G4).c2; have p3 := (unhide G4).c3; have p4 := (unhide G4).c4; have p5 := (unhide G4).c5; have p6 := (unhide G4).c6
  refine bodyPost_ret (v := .tuple #[stV p, .bool tk]) (by simp [results, Try.results15, go_sem, p0, p1, p2, p3, p4, p5, p6]) rfl ⟨by rw [unhide EP, unhide EK], unhide K4⟩

end Go.Proofs.Ytblglojbghmphaa
