/- The walk of BusMemory, whatever the bus is made of. -/
import Derived.Test.YthjeedlhlkggkabLdRuns
import Derived.Test.YthjeedlhlkggkabBusSmq
import Derived.Test.YthjeedlhlkggkabBusSty
namespace Go.Proofs.Ythjeedlhlkggkab
open Go.RowKit

/-- What may be written over, whatever it holds. -/
def SmX (w : World) (U T : Nat) (v : Value) (n : Nat) : Prop := ∃ ao cap A m c, v = .slice ao n cap ∧ SmB U T w ao n cap A m c
theorem SmX.of {w : World} {U cap : Nat} {ao : Option Addr} {L : List Lp} (h : BNew U w ao cap L) (hL : ∀ d, d ∈ L → d.p.ds.length ≤ 140737488351232) : SmX w U w.heap.size (.slice ao L.length cap) L.length := ⟨ao, cap, _, _, _, rfl, h.smear hL⟩
theorem SmX.below {w w' : World} {U T n : Nat} {v : Value} (h : SmX w U T v n) (k : Below w.heap.size w w') : SmX w' U T v n := by obtain ⟨ao, cap, A, m, c, e, h⟩ := h; exact ⟨ao, cap, A, m, c, e, h.below k⟩
theorem SmX.kept {w w' : World} {U T n z : Nat} {v : Value} (h : SmX w U T v n) (k : Kept z w w') (hz : z < U ∨ T ≤ z) : SmX w' U T v n := by obtain ⟨ao, cap, A, m, c, e, h⟩ := h; exact ⟨ao, cap, A, m, c, e, h.kept k hz⟩
theorem SmX.byte {w : World} {U T n z x : Nat} {v : Value} {cz : Array Value} (u : Value) (h : SmX w U T v n) (hz : w.heap[z]? = some (.cells cz 5 (0, 0))) : SmX (w.setCell ⟨z, x, none⟩ u) U T v n := by obtain ⟨ao, cap, A, m, c, e, h⟩ := h; exact ⟨ao, cap, A, m, c, e, h.byte u hz⟩
theorem SmX.ki {w w' : World} {U T U' T' n : Nat} {v : Value} (h : SmX w U T v n) (k : KI U' T' w w') (hd : T' ≤ U ∨ T ≤ U') : SmX w' U T v n := by
  obtain ⟨ao, cap, A, m, c, e, h⟩ := h
  have hb : ∀ t b cur, U ≤ b → b < T → w.heap[b]? = some (.cells cur t (0, 0)) → ∃ cur', w'.heap[b]? = some (.cells cur' t (0, 0)) ∧ cur'.size = cur.size := fun t b cur h1 h2 hb => ⟨cur, (k.block b (lt_of_block hb) (by omega)).trans hb, rfl⟩
  refine ⟨ao, cap, A, m, c, e, h.1, h.2.1.same (hb _), ?_, fun j hj => ⟨(h.2.2.2 j hj).1, (h.2.2.2 j hj).2.1, (h.2.2.2 j hj).2.2.same (hb _)⟩⟩
  rcases h.2.2.1 with h0 | ⟨b, o, cur, ea, h1, h2, h3, h4, h5⟩
  · exact Or.inl h0
  · exact Or.inr ⟨b, o, cur, ea, h1, h2, (k.block b (lt_of_block h3) (by omega)).trans h3, h4, h5⟩
theorem run_get3 {f : Operand → Value} {o : Oper} (x : Operand) (i : Nat) (ho : o.op = .extract x i) {a b c : Value} (hx : f x = .tuple #[a, b, c]) {v : Value} (hv : #[a, b, c][i]? = some v) (w : World) : (execOp f o).run Try.prog w = .ok (.value v) w := by
  unfold execOp
  rw [ho]
  dsimp only
  rw [hx]
  go_simp
theorem enter_stepM (p q : Value) (w : World) : (callFunc 13 #[p, q]).run Try.prog w = .ok (.enter 13 #[p, q]) w := by go_simp
theorem enter_loseM (p q : Value) (w : World) : (callFunc 9 #[p, q]).run Try.prog w = .ok (.enter 9 #[p, q]) w := by go_simp
theorem enter_turnM (p q r s : Value) (w : World) : (callFunc 8 #[p, q, r, s]).run Try.prog w = .ok (.enter 8 #[p, q, r, s]) w := by go_simp
theorem wp_call4 (w : World) {P : Program} {Q : Exit → Act → World → Prop} {o : Oper} {a : Act} {K : Act → World → Prop} (n : Nat) (x y z u : Operand) (T : Array TypeId) (ho : o.op = .call { callee := .value (.func n), args := #[x, y, z, u], argTypes := T }) {p q r s : Value} (hx : a.eval x = p) (hy : a.eval y = q) (hz : a.eval z = r) (hu : a.eval u = s) (hf : (callFunc n #[p, q, r, s]).run P w = .ok (.enter n #[p, q, r, s]) w) {R : Ending → World → Prop} (hc : Calls P n #[p, q, r, s] w R)
    (h : ∀ e w', R e w' → ∃ r, e = .returned r ∧ K (a.put o.dst r) w') : WpI P o a w K Q := by
  refine ⟨?_⟩
  have e : (execOp a.eval o).run P w = .ok (.enter n #[p, q, r, s]) w := by
    unfold execOp
    rw [ho]
    have hv2 : a.eval (Operand.func n) = .func (.func n) #[] #[] := rfl
    simp only [resolve, invoke, Sem.run_bind, List.map_toArray, List.map_cons, List.map_nil, hx, hy, hz, hu, hv2]
    go_simp
  unfold Oper.wp
  rw [e, Oper.upon_enter]
  refine hc.mono ?_
  intro e w' hr
  obtain ⟨r, rfl, hk⟩ := h e w' hr
  exact hk

set_option maxRecDepth 100000 in
set_option maxHeartbeats 8000000 in
theorem busMemory_by (hS : SeOK 12) (hP : SpOK' 13) (hL : LoOK 9) (hU : TuOK 8) (ao : Option Addr) (cap : Nat) (D : List Ld) (bo : Option Addr) (bc : Nat) (ds : List Nat) (t ser : Int) {w : World} (hD : ∀ l, l ∈ D → LdOK l) (hr : LRd w ao D) (hlen : D.length ≤ 9223372036854775807) (hs : Sr w bo ds.length bc (bF (gF ds))) (hbc : ds.length ≤ bc) (h256 : ∀ x, x ∈ ds → x < 256) (hdl : ds.length ≤ 140737488351232) :
    Calls Try.prog 4 #[.slice ao D.length cap, .slice bo ds.length bc, .int .i64 t, .int .i64 ser] w fun e w' => e = .returned (.bool true) ∧ Below w.heap.size w w' := by
  obtain ⟨Tt, eT⟩ : ∃ Tt, Tt = spF t 1200 := ⟨_, rfl⟩
  obtain ⟨Ss, eS⟩ : ∃ Ss, Ss = spF ser 100 := ⟨_, rfl⟩
  have hTt : Tt < 1200 := by have := spF_lt t (n := 1200) (by omega); omega
  have hSs : Ss < 100 := by have := spF_lt ser (n := 100) (by omega); omega
  obtain ⟨kk, ekk⟩ : ∃ kk, kk = min D.length 100 := ⟨_, rfl⟩
  have hkD : kk ≤ D.length := by omega
  have hk100 : kk ≤ 100 := by omega
  obtain ⟨b, eb⟩ : ∃ b : Bs, b = ⟨0, (kk : Nat), ldQ D kk⟩ := ⟨_, rfl⟩
  have hb : BsOK b := by rw [eb]; exact ldQ_ok hkD (fun l hl => (hD l hl).2.2.2.1) hk100
  obtain ⟨dt, edt⟩ : ∃ dt, dt = ds.take 220 := ⟨_, rfl⟩
  have hdt : ∀ x, x ∈ dt → x < 256 := fun x hx => by rw [edt] at hx; exact h256 x (List.mem_of_mem_take hx)
  have CL := loaded_any hS ao cap D w hD hr hlen kk ekk
  have HB := hide hb; have EB := hide eb; have HKD := hide hkD; have ET := hide eT; have ES := hide eS; have SD := hide hs; have EDT := hide edt; have HDT := hide hdt; have EKK := hide ekk
  unfold busV at CL
  clear hD hr ekk eb hb hkD eT eS hs edt hdt h256
  go_enter Try.func4, Try.ntmps4
  go_wp2_with fail
  refine CL.mono ?_
  rintro e w1 ⟨a1, c1, L1, rfl, t1, r1, k1⟩
  have el1 : L1.length = kk := by rw [t1.len, ldQ_len (unhide HKD)]
  obtain ⟨w2, e2, m2, k2, s2⟩ := bu_alloc w1 0 (kk : Nat) (.slice a1 kk c1)
  have CR := runs_any hS hP w2
  have E2 := hide e2; have M2 := hide m2; have R2 := hide (r1.below k2); have T1 := hide t1; have EL1 := hide el1
  have K2 := hide (k1.trans (k2.mono k1.size))
  rw [el1]
  clear CL t1 r1 k1 e2 m2 k2 s2 el1
  go_wp2_with fail
  rw [← unhide E2]
  refine CR.mono ?_
  rintro e w3 ⟨rfl, k3⟩
  have M3 := hide ((unhide M2).below k3); have R3 := hide ((unhide R2).below k3); have K3 := hide ((unhide K2).trans (k3.mono (unhide K2).size))
  have SD3 := hide ((unhide SD).below (unhide K3))
  obtain ⟨gb, egb⟩ : ∃ gb, gb = w1.heap.size := ⟨_, rfl⟩
  clear CR k3
  obtain ⟨m2, em2⟩ : ∃ m2, m2 = dt.length := ⟨_, rfl⟩
  have EM2 := hide em2
  have CONT := hide (show ∀ (K0 : Prop), K0 → K0 from fun _ h => h)
  have x0 := (unhide M3).cell0; have x1 := (unhide M3).cell1; have x2 := (unhide M3).cell2
  have C1 := roomyBus_any 0 (kk : Nat) (ldQ D kk) a1 c1 L1 w3 (fun p hp => (unhide HB).2.2.1 p (by rw [unhide EB]; exact hp)) (unhide T1) (unhide R3) (by rw [unhide EL1]; exact hk100)
  rw [unhide EL1] at C1
  unfold busV at C1
  clear em2
  by_cases hl2 : 220 < ds.length
  · have hl2' : (220 : Int) < (ds.length : Nat) := by omega
    obtain rfl : m2 = 220 := by rw [unhide EM2, unhide EDT, List.length_take]; omega
    have hbc1 : (220 : Int) ≤ (bc : Nat) := by omega
    obtain ⟨bx, ebx⟩ : ∃ bx, bo = some bx := by
      rcases unhide SD3 with ⟨_, h0, _⟩ | ⟨bx, h0, _⟩
      · omega
      · exact ⟨bx, h0⟩
    subst ebx
    have SDT := hide (show Sr w3 (some bx) 220 bc (bF (gF dt)) from ((unhide SD3).less (by omega)).congr (fun i hi => by unfold bF; rw [unhide EDT, gF_take hi]))
    have hmb : 220 ≤ bc := by omega
    go_wp2_with fail
    refine C1.mono ?_
    rintro e w4 ⟨r, cq, M, rfl, tM, ro, k4⟩
    obtain ⟨w5, e5, m5, k5, s5⟩ := bu_alloc w4 0 (kk : Nat) (.slice (some ⟨r, 0, none⟩) kk cq)
    have j5 : Below w3.heap.size w3 w5 := k4.trans (k5.mono k4.size)
    have CD := roomyB_any (some bx) (220) bc (gF dt) w5 (by omega) ((unhide SDT).below j5)
    have E5 := hide e5; have MB := hide ((unhide M3).below j5); have MC := hide m5; have RO := hide (ro.below k5); have RB := hide ((unhide R3).below j5); have SDx := hide ((unhide SDT).below j5); have TM := hide tM; have K5 := hide ((unhide K3).trans (j5.mono (unhide K3).size))
    clear C1 tM ro k4 e5 m5 k5 s5 j5 x0 x1 x2
    go_wp2_with fail
    rw [← unhide E5]
    refine CD.mono ?_
    rintro e w6 ⟨rd, cd, rfl, hrd, vd, k6⟩
    have mc6 := (unhide MC).below k6
    have y0 := mc6.cell0; have y1 := mc6.cell1; have y2 := mc6.cell2
    have hfit := vd.fit
    have bnow : b.now = 0 := by rw [unhide EB]
    have bser : b.ser = (kk : Nat) := by rw [unhide EB]
    have bq : b.q = ldQ D kk := by rw [unhide EB]
    have tMb : These M b.q := by rw [bq]; exact unhide TM
    have hMl : M.length = kk := (unhide RO).1
    have hml : dt.length = 220 := (unhide EM2).symm
    have sd : Sr w6 (some ⟨rd, 0, none⟩) dt.length cd (bF (gF dt)) := by
      rw [hml]
      exact Or.inr ⟨_, rfl, fun i hi => by
        rw [Addr.add_lit, Nat.zero_add, vd.cell (by omega)]
        unfold bF
        rw [rbF_low hi]⟩
    have ro6 := (unhide RO).below k6
    have CS := hS b (some ⟨r, 0, none⟩) cq M 0 1 5 (some ⟨rd, 0, none⟩) cd dt w6 (unhide HB) tMb ro6.rd (by unfold R64; omega) (by unfold R64; omega) (by unfold R64; omega) sd (by omega) (unhide HDT) (by omega)
    obtain ⟨Y1, eY1⟩ : ∃ Y1, Y1 = sendS b 0 1 dt 5 := ⟨_, rfl⟩
    have OK1 := hide (show BsOK Y1 by rw [eY1]; exact sendS_ok (unhide HB) (unhide HDT))
    rw [bnow, bser, hMl, hml, ← eY1] at CS
    unfold busV at CS
    obtain ⟨Y2, eY2⟩ : ∃ Y2, Y2 = stepS b (Tt : Nat) := ⟨_, rfl⟩
    obtain ⟨Z2, eZ2⟩ : ∃ Z2, Z2 = comeS b (Tt : Nat) := ⟨_, rfl⟩
    obtain ⟨E2, eE2⟩ : ∃ E2 : Nat, E2 = stepE 0 (Tt : Nat) := ⟨_, rfl⟩
    obtain ⟨Y3, eY3⟩ : ∃ Y3, Y3 = loseS b (Ss : Nat) := ⟨_, rfl⟩
    obtain ⟨E3, eE3⟩ : ∃ E3 : Nat, E3 = loseE b (Ss : Nat) := ⟨_, rfl⟩
    obtain ⟨Y4, eY4⟩ : ∃ Y4, Y4 = turnS b (Ss : Nat) 0 1 := ⟨_, rfl⟩
    obtain ⟨E4, eE4⟩ : ∃ E4 : Nat, E4 = turnE b (Ss : Nat) 0 1 := ⟨_, rfl⟩
    have OK2 := hide (show BsOK Y2 by rw [eY2]; exact stepS_ok (unhide HB) (by unfold R64; omega))
    have OK2P := hide (show (∀ p, p ∈ Z2 → PcOK p) ∧ Z2.length ≤ 2513169434843 by rw [eZ2]; exact comeS_ok (unhide HB))
    have OK3 := hide (show BsOK Y3 by rw [eY3]; exact loseS_ok (unhide HB))
    have OK4 := hide (show BsOK Y4 by rw [eY4]; exact turnS_ok (unhide HB))
    have CSTEP := hide (fun (w4 : World) (r1 : BRd w4 (some ⟨r, 0, none⟩) cq M) => (by
      have C := hP b (some ⟨r, 0, none⟩) cq M (Tt : Nat) w4 (unhide HB) tMb r1 (by unfold R64; omega)
      rw [← eY2, ← eZ2, bnow, bser, hMl, ← eE2] at C
      exact C : Calls Try.prog 13 #[busV 0 (kk : Nat) (.slice (some ⟨r, 0, none⟩) kk cq), .int .i64 (Tt : Nat)] w4 _))
    have CLOSE := hide (fun (w4 : World) (r1 : BRd w4 (some ⟨r, 0, none⟩) cq M) => (by
      have C := hL b (some ⟨r, 0, none⟩) cq M (Ss : Nat) w4 (unhide HB) tMb r1 (by unfold R64; omega)
      rw [← eY3, bnow, bser, hMl, ← eE3] at C
      exact C : Calls Try.prog 9 #[busV 0 (kk : Nat) (.slice (some ⟨r, 0, none⟩) kk cq), .int .i64 (Ss : Nat)] w4 _))
    have CTURN := hide (fun (w4 : World) (r1 : BRd w4 (some ⟨r, 0, none⟩) cq M) => (by
      have C := hU b (some ⟨r, 0, none⟩) cq M (Ss : Nat) 0 1 w4 (unhide HB) tMb r1 (by unfold R64; omega) (by unfold R64; omega) (by unfold R64; omega)
      rw [← eY4, bnow, bser, hMl, ← eE4] at C
      exact C : Calls Try.prog 8 #[busV 0 (kk : Nat) (.slice (some ⟨r, 0, none⟩) kk cq), .int .i64 (Ss : Nat), .int .i64 0, .int .i64 1] w4 _))
    obtain ⟨gc, egc⟩ : ∃ gc, gc = w4.heap.size := ⟨_, rfl⟩
    rw [← egc] at MC
    have MB := hide ((unhide MB).below k6); have MC := hide ((unhide MC).below k6); have RO := hide ro6; have RB := hide ((unhide RB).below k6); have SDx := hide ((unhide SDx).below k6); have VD := hide vd; have K6 := hide ((unhide K5).trans (k6.mono (unhide K5).size))
    clear CD hrd vd k6 mc6 bnow bser bq tMb sd ro6 eY1 eY2 eZ2 eE2 eY3 eE3 eY4 eE4 hfit hml
    go_wp2_with fail
    refine CS.mono ?_
    rintro e w7 ⟨a7, c7, L7, rfl, t7, n7, k7⟩
    obtain ⟨W, eW, mW, kW, sW⟩ := bu_alloc w7 Y1.now Y1.ser (.slice a7 L7.length c7)
    have j6 : Below w6.heap.size w6 W := k7.trans (kW.mono k7.size)
    have SX1 := hide ((SmX.of n7 (fun d hd => ((unhide OK1).2.2.1 d.p (t7.mem hd)).2.2.2.2.2)).below kW)
    have LN1 : L7.length ≤ 2513169434843 := by rw [t7.len]; exact (unhide OK1).2.2.2
    obtain ⟨g1, eg1⟩ : ∃ g1, g1 = w7.heap.size := ⟨_, rfl⟩
    have M1 := hide mW
    rw [← eg1] at M1
    have l0 : g1 < W.heap.size := (unhide M1).lt
    have MC6 := MC; have RO6 := RO
    have MC := hide ((unhide MC).below j6); have RO := hide ((unhide RO).below j6); have J6 := hide j6; have EW := hide eW
    have Zg1 := hide (show w7.heap.size ≤ g1 ∧ W.heap.size = w7.heap.size + 1 ∧ w6.heap.size ≤ w7.heap.size from ⟨by omega, sW, k7.size⟩)
    clear CS t7 n7 k7 eW mW kW sW j6 y0 y1 y2
    go_wp2_with fail
    rw [← unhide EW, ← egc, ← eg1]
    clear eg1 egc EW
    refine wp_leaves (fun a0 a' w' => ∃ (a6 : Option Addr) (c6 : Nat) (L6 : List Lp) (pa : Option Addr) (pc : Nat) (PL : List Lp) (g8 Ux Tx : Nat), SmX w' Ux Tx (.slice a6 L6.length c6) L6.length ∧ SmX w' Ux Tx (.slice pa PL.length pc) PL.length ∧ L6.length ≤ 2513169434843 ∧ PL.length ≤ 2513169434843 ∧ BuAt w' g8 Y2.now Y2.ser (.slice a6 L6.length c6) ∧ Below W.heap.size W w' ∧ W.heap.size ≤ g8 ∧ (g8 < Ux ∨ Tx ≤ g8) ∧ W.heap.size ≤ Ux ∧ Ux ≤ Tx ∧ Tx ≤ w'.heap.size ∧ a' = (((((((((((a0.put (some 51) (busV 0 (kk : Nat) (.slice (some ⟨r, 0, none⟩) kk cq))).put (some 52) (.int .i64 t)).put (some 15) (.pointer (some ⟨g8, 0, none⟩))).put (some 53) (.int .i64 (Tt : Nat))).put (some 54) (.tuple #[busV Y2.now Y2.ser (.slice a6 L6.length c6), .slice pa PL.length pc, .int .i64 (E2 : Nat)])).put (some 50) (.tuple #[busV Y2.now Y2.ser (.slice a6 L6.length c6), .slice pa PL.length pc, .int .i64 (E2 : Nat)])).put (some 55) (busV Y2.now Y2.ser (.slice a6 L6.length c6))).put (some 56) (.slice pa PL.length pc)).put (some 57) (.int .i64 (E2 : Nat))).put (some 16) (.slice pa PL.length pc)).put (some 17) (.int .i64 (E2 : Nat)))) ?reg9 ?rest9
    case reg9 =>
      intro A eA
      have b11 : A.eval (.tmp 11) = .pointer (some ⟨gc, 0, none⟩) := by rw [eA]; rfl
      have bs : A.eval (.tmp 2) = .int .i64 t := by rw [eA]; rfl
      have hs : 111 ≤ A.tmps.size := by rw [eA]; exact of_decide_eq_true rfl
      clear eA
      have h0 : BuAt W.drew gc 0 (kk : Nat) (.slice (some ⟨r, 0, none⟩) kk cq) := unhide MC
      have hBr : BRd W.drew (some ⟨r, 0, none⟩) cq M := (unhide RO).rd
      have l1 : gc < W.heap.size := (unhide MC).lt
      refine region_I (S := fun W => BuAt W gc 0 (kk : Nat) (.slice (some ⟨r, 0, none⟩) kk cq)) (.rd 0 (.rd 1 (.two 2 8 (.two 3 8 (.rd 4 (.rd 5 (.rd 6 (.rd 7 (.go 8 (.go 9 (.rd 10 (.rd 11 .fin)))))))) (.go 3 (.rd 4 (.rd 5 (.rd 6 (.rd 7 (.go 9 (.rd 10 (.rd 11 .fin))))))))) (.go 2 (.go 3 (.rd 4 (.rd 5 (.rd 6 (.rd 7 (.go 9 (.rd 10 (.rd 11 .fin)))))))))))) [] (by kernel_rfl) (by kernel_rfl) ?_
      refine sI_read (v := (busV 0 (kk : Nat) (.slice (some ⟨r, 0, none⟩) kk cq))) rfl (fun _ _ _ h => absurd h.1 (fun e => nomatch e)) (wanted_rd rfl) h0 (fun wx hx => run_lodU (.tmp 11) rfl b11 hx) ?_
      show SeqI _ _ _ _ _ _ (Act.put _ (some 51) _) _
      refine sI_read (v := (.int .i64 t)) rfl (fun _ _ _ h => absurd h.1 (fun e => nomatch e)) (wanted_rd rfl) h0 (fun wx _ => run_move (.tmp 2) rfl ((ev_other _ _ (by decide)).trans bs) wx) ?_
      show SeqI _ _ _ _ _ _ (Act.put _ (some 52) _) _
      refine sI_two rfl rfl (wanted_rd rfl) (wanted_rd rfl) ?_ ?_
      · intro K hK
        refine wp_call2 _ 7 (.tmp 52) (.const (.int .i64 1200)) _ rfl (ev_same _ _ _ (by simp only [sz_put]; omega)) rfl (enter_spot _ _ _) (spF_any t 1200 (by omega) (by omega) _) ?_
        rw [← unhide ET]
        rintro e wq ⟨rfl, hq⟩
        obtain rfl : W.drew = wq := hq.symm
        refine ⟨_, rfl, ?_⟩
        refine hK _ _ (fun _ => h0) ?_
        clear hK K
        show SeqI _ _ _ _ _ _ (Act.put _ (some 53) _) _
        refine sI_two rfl rfl (wanted_rd rfl) (wanted_rd rfl) ?_ ?_
        · intro K hK
          refine wp_call2 _ 13 (.tmp 51) (.tmp 53) _ rfl ((ev_other _ _ (by decide)).trans ((ev_other _ _ (by decide)).trans (ev_same _ _ _ (by omega)))) (ev_same _ _ _ (by simp only [sz_put]; omega)) (enter_stepM _ _ _) (unhide CSTEP _ hBr) ?_
          rintro e w1 ⟨a6, c6, L6, pa, pc, PL, rfl, t6, n1, tp, pp1, k1⟩
          have h1 := h0.below k1
          have j1 : Below W.drew.heap.size W.drew w1 := (Below.refl W.drew.heap.size W.drew).trans (k1.mono (Below.refl W.drew.heap.size W.drew).size)
          refine ⟨_, rfl, ?_⟩
          refine hK _ _ (fun _ => h1) ?_
          clear hK K
          show SeqI _ _ _ _ _ _ (Act.put _ (some 54) _) _
          refine sI_read (v := (.tuple #[busV Y2.now Y2.ser (.slice a6 L6.length c6), .slice pa PL.length pc, .int .i64 (E2 : Nat)])) rfl (fun _ _ _ h => absurd h.1 (fun e => nomatch e)) (wanted_rd rfl) h1 (fun wx _ => run_move (.tmp 54) rfl (ev_same _ _ _ (by simp only [sz_put]; omega)) wx) ?_
          show SeqI _ _ _ _ _ _ (Act.put _ (some 50) _) _
          refine sI_read (v := (busV Y2.now Y2.ser (.slice a6 L6.length c6))) rfl (fun _ _ _ h => absurd h.1 (fun e => nomatch e)) (wanted_rd rfl) h1 (fun wx _ => run_get3 (.tmp 50) 0 rfl (ev_same _ _ _ (by simp only [sz_put]; omega)) rfl wx) ?_
          show SeqI _ _ _ _ _ _ (Act.put _ (some 55) _) _
          refine sI_read (v := (.slice pa PL.length pc)) rfl (fun _ _ _ h => absurd h.1 (fun e => nomatch e)) (wanted_rd rfl) h1 (fun wx _ => run_get3 (.tmp 50) 1 rfl ((ev_other _ _ (by decide)).trans (ev_same _ _ _ (by simp only [sz_put]; omega))) rfl wx) ?_
          show SeqI _ _ _ _ _ _ (Act.put _ (some 56) _) _
          refine sI_read (v := (.int .i64 (E2 : Nat))) rfl (fun _ _ _ h => absurd h.1 (fun e => nomatch e)) (wanted_rd rfl) h1 (fun wx _ => run_get3 (.tmp 50) 2 rfl ((ev_other _ _ (by decide)).trans ((ev_other _ _ (by decide)).trans (ev_same _ _ _ (by simp only [sz_put]; omega)))) rfl wx) ?_
          show SeqI _ _ _ _ _ _ (Act.put _ (some 57) _) _
          refine sI_do rfl (wanted_rd rfl) (fun K hK => ?_)
          refine wp_allocU _ rfl ?_
          intro w2 m2 k2 z2
          have h2 := h1.below k2
          have j2 : Below W.drew.heap.size W.drew w2 := j1.trans (k2.mono j1.size)
          have hg : W.heap.size ≤ w1.heap.size := j1.size
          have lb := k2
          refine hK _ _ (fun _ => h2) ?_
          clear hK K
          show SeqI _ _ _ _ _ _ (Act.put _ (some 15) _) _
          refine sI_do rfl (wanted_rd rfl) (fun K hK => ?_)
          refine wp_storeU _ (.tmp 15) (.tmp 55) rfl (ev_same _ _ _ (by simp only [sz_put]; omega)) ((ev_other _ _ (by decide)).trans ((ev_other _ _ (by decide)).trans ((ev_other _ _ (by decide)).trans (ev_same _ _ _ (by simp only [sz_put]; omega))))) m2 rfl ?_
          intro w3 m3 k3 z3
          have h3 := h2.kept k3 (by omega)
          refine hK _ _ (fun _ => h3) ?_
          clear hK K
          refine sI_read (v := (.slice pa PL.length pc)) rfl (fun _ _ _ h => absurd h.1 (fun e => nomatch e)) (wanted_rd rfl) h3 (fun wx _ => run_assign (.tmp 56) rfl ((ev_other _ _ (by decide)).trans ((ev_other _ _ (by decide)).trans (ev_same _ _ _ (by simp only [sz_put]; omega)))) wx) ?_
          show SeqI _ _ _ _ _ _ (Act.put _ (some 16) _) _
          refine sI_read (v := (.int .i64 (E2 : Nat))) rfl (fun _ _ _ h => absurd h.1 (fun e => nomatch e)) (wanted_rd rfl) h3 (fun wx _ => run_assign (.tmp 57) rfl ((ev_other _ _ (by decide)).trans ((ev_other _ _ (by decide)).trans (ev_same _ _ _ (by simp only [sz_put]; omega)))) wx) ?_
          show SeqI _ _ _ _ _ _ (Act.put _ (some 17) _) _
          have jj : Below W.heap.size W w3 := below_of_kept ((below_drew (Below.refl _ _)).trans (show Below W.heap.size W.drew w2 from j2)) k3 hg (show W.heap.size ≤ w2.heap.size from j2.size)
          exact sI_end ⟨rfl, a6, c6, L6, pa, pc, PL, w1.heap.size, W.drew.heap.size, w1.heap.size, (((SmX.of n1 (fun d hd => ((unhide OK2).2.2.1 d.p (t6.mem hd)).2.2.2.2.2)).below lb).kept k3 (Or.inr (Nat.le_refl _))), (((SmX.of pp1 (fun d hd => ((unhide OK2P).1 d.p (tp.mem hd)).2.2.2.2.2)).below lb).kept k3 (Or.inr (Nat.le_refl _))), (by rw [t6.len]; exact (unhide OK2).2.2.2), (by rw [tp.len]; exact (unhide OK2P).2), m3, jj, hg, (Or.inr (Nat.le_refl _)), (show W.heap.size ≤ W.drew.heap.size from (Below.refl W.drew.heap.size W.drew).size), k1.size, Nat.le_trans lb.size k3.size, (by rw [put_swap _ 57 15 _ _ (by decide), put_swap _ 56 15 _ _ (by decide), put_swap _ 55 15 _ _ (by decide), put_swap _ 50 15 _ _ (by decide), put_swap _ 54 15 _ _ (by decide), put_swap _ 53 15 _ _ (by decide)]; first | done | rfl)⟩
        · intro K hK
          refine wp_allocU _ rfl ?_
          intro w1 m1 k1 z1
          have h1 := h0.below k1
          have j1 : Below W.drew.heap.size W.drew w1 := (Below.refl W.drew.heap.size W.drew).trans (k1.mono (Below.refl W.drew.heap.size W.drew).size)
          have hg : W.heap.size ≤ W.drew.heap.size := (Below.refl W.drew.heap.size W.drew).size
          refine hK _ _ (fun _ => h1) ?_
          clear hK K
          show SeqI _ _ _ _ _ _ (Act.put _ (some 15) _) _
          refine sI_do rfl (wanted_rd rfl) (fun K hK => ?_)
          refine wp_call2 _ 13 (.tmp 51) (.tmp 53) _ rfl ((ev_other _ _ (by decide)).trans ((ev_other _ _ (by decide)).trans ((ev_other _ _ (by decide)).trans (ev_same _ _ _ (by omega))))) ((ev_other _ _ (by decide)).trans (ev_same _ _ _ (by simp only [sz_put]; omega))) (enter_stepM _ _ _) (unhide CSTEP _ (hBr.below j1)) ?_
          rintro e w2 ⟨a6, c6, L6, pa, pc, PL, rfl, t6, n2, tp, pp2, k2⟩
          have h2 := h1.below k2
          have j2 : Below W.drew.heap.size W.drew w2 := j1.trans (k2.mono j1.size)
          have m2 := m1.below k2
          refine ⟨_, rfl, ?_⟩
          refine hK _ _ (fun _ => h2) ?_
          clear hK K
          show SeqI _ _ _ _ _ _ (Act.put _ (some 54) _) _
          refine sI_read (v := (.tuple #[busV Y2.now Y2.ser (.slice a6 L6.length c6), .slice pa PL.length pc, .int .i64 (E2 : Nat)])) rfl (fun _ _ _ h => absurd h.1 (fun e => nomatch e)) (wanted_rd rfl) h2 (fun wx _ => run_move (.tmp 54) rfl (ev_same _ _ _ (by simp only [sz_put]; omega)) wx) ?_
          show SeqI _ _ _ _ _ _ (Act.put _ (some 50) _) _
          refine sI_read (v := (busV Y2.now Y2.ser (.slice a6 L6.length c6))) rfl (fun _ _ _ h => absurd h.1 (fun e => nomatch e)) (wanted_rd rfl) h2 (fun wx _ => run_get3 (.tmp 50) 0 rfl (ev_same _ _ _ (by simp only [sz_put]; omega)) rfl wx) ?_
          show SeqI _ _ _ _ _ _ (Act.put _ (some 55) _) _
          refine sI_read (v := (.slice pa PL.length pc)) rfl (fun _ _ _ h => absurd h.1 (fun e => nomatch e)) (wanted_rd rfl) h2 (fun wx _ => run_get3 (.tmp 50) 1 rfl ((ev_other _ _ (by decide)).trans (ev_same _ _ _ (by simp only [sz_put]; omega))) rfl wx) ?_
          show SeqI _ _ _ _ _ _ (Act.put _ (some 56) _) _
          refine sI_read (v := (.int .i64 (E2 : Nat))) rfl (fun _ _ _ h => absurd h.1 (fun e => nomatch e)) (wanted_rd rfl) h2 (fun wx _ => run_get3 (.tmp 50) 2 rfl ((ev_other _ _ (by decide)).trans ((ev_other _ _ (by decide)).trans (ev_same _ _ _ (by simp only [sz_put]; omega)))) rfl wx) ?_
          show SeqI _ _ _ _ _ _ (Act.put _ (some 57) _) _
          refine sI_do rfl (wanted_rd rfl) (fun K hK => ?_)
          refine wp_storeU _ (.tmp 15) (.tmp 55) rfl ((ev_other _ _ (by decide)).trans ((ev_other _ _ (by decide)).trans ((ev_other _ _ (by decide)).trans ((ev_other _ _ (by decide)).trans ((ev_other _ _ (by decide)).trans (ev_same _ _ _ (by simp only [sz_put]; omega))))))) ((ev_other _ _ (by decide)).trans ((ev_other _ _ (by decide)).trans (ev_same _ _ _ (by simp only [sz_put]; omega)))) m2 rfl ?_
          intro w3 m3 k3 z3
          have h3 := h2.kept k3 (by omega)
          refine hK _ _ (fun _ => h3) ?_
          clear hK K
          refine sI_read (v := (.slice pa PL.length pc)) rfl (fun _ _ _ h => absurd h.1 (fun e => nomatch e)) (wanted_rd rfl) h3 (fun wx _ => run_assign (.tmp 56) rfl ((ev_other _ _ (by decide)).trans (ev_same _ _ _ (by simp only [sz_put]; omega))) wx) ?_
          show SeqI _ _ _ _ _ _ (Act.put _ (some 16) _) _
          refine sI_read (v := (.int .i64 (E2 : Nat))) rfl (fun _ _ _ h => absurd h.1 (fun e => nomatch e)) (wanted_rd rfl) h3 (fun wx _ => run_assign (.tmp 57) rfl ((ev_other _ _ (by decide)).trans (ev_same _ _ _ (by simp only [sz_put]; omega))) wx) ?_
          show SeqI _ _ _ _ _ _ (Act.put _ (some 17) _) _
          have jj : Below W.heap.size W w3 := below_of_kept ((below_drew (Below.refl _ _)).trans (show Below W.heap.size W.drew w2 from j2)) k3 hg (show W.heap.size ≤ w2.heap.size from j2.size)
          exact sI_end ⟨rfl, a6, c6, L6, pa, pc, PL, W.drew.heap.size, w1.heap.size, w2.heap.size, ((SmX.of n2 (fun d hd => ((unhide OK2).2.2.1 d.p (t6.mem hd)).2.2.2.2.2)).kept k3 (Or.inl (show W.drew.heap.size < w1.heap.size from m1.lt))), ((SmX.of pp2 (fun d hd => ((unhide OK2P).1 d.p (tp.mem hd)).2.2.2.2.2)).kept k3 (Or.inl (show W.drew.heap.size < w1.heap.size from m1.lt))), (by rw [t6.len]; exact (unhide OK2).2.2.2), (by rw [tp.len]; exact (unhide OK2P).2), m3, jj, hg, (Or.inl (show W.drew.heap.size < w1.heap.size from m1.lt)), (show W.heap.size ≤ w1.heap.size from j1.size), k2.size, k3.size, (by rw [put_swap _ 53 15 _ _ (by decide)]; first | done | rfl)⟩
      · intro K hK
        refine wp_allocU _ rfl ?_
        intro w1 m1 k1 z1
        have h1 := h0.below k1
        have j1 : Below W.drew.heap.size W.drew w1 := (Below.refl W.drew.heap.size W.drew).trans (k1.mono (Below.refl W.drew.heap.size W.drew).size)
        have hg : W.heap.size ≤ W.drew.heap.size := (Below.refl W.drew.heap.size W.drew).size
        refine hK _ _ (fun _ => h1) ?_
        clear hK K
        show SeqI _ _ _ _ _ _ (Act.put _ (some 15) _) _
        refine sI_do rfl (wanted_rd rfl) (fun K hK => ?_)
        refine wp_call2 _ 7 (.tmp 52) (.const (.int .i64 1200)) _ rfl ((ev_other _ _ (by decide)).trans (ev_same _ _ _ (by simp only [sz_put]; omega))) rfl (enter_spot _ _ _) (spF_any t 1200 (by omega) (by omega) _) ?_
        rw [← unhide ET]
        rintro e wq ⟨rfl, hq⟩
        obtain rfl : w1 = wq := hq.symm
        refine ⟨_, rfl, ?_⟩
        refine hK _ _ (fun _ => h1) ?_
        clear hK K
        show SeqI _ _ _ _ _ _ (Act.put _ (some 53) _) _
        refine sI_do rfl (wanted_rd rfl) (fun K hK => ?_)
        refine wp_call2 _ 13 (.tmp 51) (.tmp 53) _ rfl ((ev_other _ _ (by decide)).trans ((ev_other _ _ (by decide)).trans ((ev_other _ _ (by decide)).trans (ev_same _ _ _ (by omega))))) (ev_same _ _ _ (by simp only [sz_put]; omega)) (enter_stepM _ _ _) (unhide CSTEP _ (hBr.below j1)) ?_
        rintro e w2 ⟨a6, c6, L6, pa, pc, PL, rfl, t6, n2, tp, pp2, k2⟩
        have h2 := h1.below k2
        have j2 : Below W.drew.heap.size W.drew w2 := j1.trans (k2.mono j1.size)
        have m2 := m1.below k2
        refine ⟨_, rfl, ?_⟩
        refine hK _ _ (fun _ => h2) ?_
        clear hK K
        show SeqI _ _ _ _ _ _ (Act.put _ (some 54) _) _
        refine sI_read (v := (.tuple #[busV Y2.now Y2.ser (.slice a6 L6.length c6), .slice pa PL.length pc, .int .i64 (E2 : Nat)])) rfl (fun _ _ _ h => absurd h.1 (fun e => nomatch e)) (wanted_rd rfl) h2 (fun wx _ => run_move (.tmp 54) rfl (ev_same _ _ _ (by simp only [sz_put]; omega)) wx) ?_
        show SeqI _ _ _ _ _ _ (Act.put _ (some 50) _) _
        refine sI_read (v := (busV Y2.now Y2.ser (.slice a6 L6.length c6))) rfl (fun _ _ _ h => absurd h.1 (fun e => nomatch e)) (wanted_rd rfl) h2 (fun wx _ => run_get3 (.tmp 50) 0 rfl (ev_same _ _ _ (by simp only [sz_put]; omega)) rfl wx) ?_
        show SeqI _ _ _ _ _ _ (Act.put _ (some 55) _) _
        refine sI_read (v := (.slice pa PL.length pc)) rfl (fun _ _ _ h => absurd h.1 (fun e => nomatch e)) (wanted_rd rfl) h2 (fun wx _ => run_get3 (.tmp 50) 1 rfl ((ev_other _ _ (by decide)).trans (ev_same _ _ _ (by simp only [sz_put]; omega))) rfl wx) ?_
        show SeqI _ _ _ _ _ _ (Act.put _ (some 56) _) _
        refine sI_read (v := (.int .i64 (E2 : Nat))) rfl (fun _ _ _ h => absurd h.1 (fun e => nomatch e)) (wanted_rd rfl) h2 (fun wx _ => run_get3 (.tmp 50) 2 rfl ((ev_other _ _ (by decide)).trans ((ev_other _ _ (by decide)).trans (ev_same _ _ _ (by simp only [sz_put]; omega)))) rfl wx) ?_
        show SeqI _ _ _ _ _ _ (Act.put _ (some 57) _) _
        refine sI_do rfl (wanted_rd rfl) (fun K hK => ?_)
        refine wp_storeU _ (.tmp 15) (.tmp 55) rfl ((ev_other _ _ (by decide)).trans ((ev_other _ _ (by decide)).trans ((ev_other _ _ (by decide)).trans ((ev_other _ _ (by decide)).trans ((ev_other _ _ (by decide)).trans ((ev_other _ _ (by decide)).trans (ev_same _ _ _ (by simp only [sz_put]; omega)))))))) ((ev_other _ _ (by decide)).trans ((ev_other _ _ (by decide)).trans (ev_same _ _ _ (by simp only [sz_put]; omega)))) m2 rfl ?_
        intro w3 m3 k3 z3
        have h3 := h2.kept k3 (by omega)
        refine hK _ _ (fun _ => h3) ?_
        clear hK K
        refine sI_read (v := (.slice pa PL.length pc)) rfl (fun _ _ _ h => absurd h.1 (fun e => nomatch e)) (wanted_rd rfl) h3 (fun wx _ => run_assign (.tmp 56) rfl ((ev_other _ _ (by decide)).trans (ev_same _ _ _ (by simp only [sz_put]; omega))) wx) ?_
        show SeqI _ _ _ _ _ _ (Act.put _ (some 16) _) _
        refine sI_read (v := (.int .i64 (E2 : Nat))) rfl (fun _ _ _ h => absurd h.1 (fun e => nomatch e)) (wanted_rd rfl) h3 (fun wx _ => run_assign (.tmp 57) rfl ((ev_other _ _ (by decide)).trans (ev_same _ _ _ (by simp only [sz_put]; omega))) wx) ?_
        show SeqI _ _ _ _ _ _ (Act.put _ (some 17) _) _
        have jj : Below W.heap.size W w3 := below_of_kept ((below_drew (Below.refl _ _)).trans (show Below W.heap.size W.drew w2 from j2)) k3 hg (show W.heap.size ≤ w2.heap.size from j2.size)
        exact sI_end ⟨rfl, a6, c6, L6, pa, pc, PL, W.drew.heap.size, w1.heap.size, w2.heap.size, ((SmX.of n2 (fun d hd => ((unhide OK2).2.2.1 d.p (t6.mem hd)).2.2.2.2.2)).kept k3 (Or.inl (show W.drew.heap.size < w1.heap.size from m1.lt))), ((SmX.of pp2 (fun d hd => ((unhide OK2P).1 d.p (tp.mem hd)).2.2.2.2.2)).kept k3 (Or.inl (show W.drew.heap.size < w1.heap.size from m1.lt))), (by rw [t6.len]; exact (unhide OK2).2.2.2), (by rw [tp.len]; exact (unhide OK2P).2), m3, jj, hg, (Or.inl (show W.drew.heap.size < w1.heap.size from m1.lt)), (show W.heap.size ≤ w1.heap.size from j1.size), k2.size, k3.size, rfl⟩
    case rest9 =>
      rintro a' Wb ⟨a8, c8, L8, pa, pc, PL, g2, U2, T2, sx2, sp2, ln2, lp2, mu2, j2, hg2, hd2, hU2, hT2, hTb, rfl⟩
      have MC := hide ((unhide MC).below j2); have RO := hide ((unhide RO).below j2); have M1 := hide ((unhide M1).below j2); have SX1 := hide ((unhide SX1).below j2); have J2 := hide j2
      have M2b := hide mu2; have SX2 := hide sx2; have SP2 := hide sp2
      have J6 := hide ((unhide J6).trans (j2.mono (unhide J6).size))
      have l2 : g2 < Wb.heap.size := mu2.lt
      clear sx2 sp2 mu2 j2
      go_frame
      go_wp2_with fail
      refine wp_leaves (fun a0 a' w' => ∃ (a6 : Option Addr) (c6 : Nat) (L6 : List Lp) (g8 Ux Tx : Nat), SmX w' Ux Tx (.slice a6 L6.length c6) L6.length ∧ L6.length ≤ 2513169434843 ∧ BuAt w' g8 Y3.now Y3.ser (.slice a6 L6.length c6) ∧ Below Wb.heap.size Wb w' ∧ Wb.heap.size ≤ g8 ∧ (g8 < Ux ∨ Tx ≤ g8) ∧ Wb.heap.size ≤ Ux ∧ Ux ≤ Tx ∧ Tx ≤ w'.heap.size ∧ a' = (((((((((a0.put (some 59) (busV 0 (kk : Nat) (.slice (some ⟨r, 0, none⟩) kk cq))).put (some 60) (.int .i64 ser)).put (some 18) (.pointer (some ⟨g8, 0, none⟩))).put (some 61) (.int .i64 (Ss : Nat))).put (some 62) (.tuple #[busV Y3.now Y3.ser (.slice a6 L6.length c6), .int .i64 (E3 : Nat)])).put (some 58) (.tuple #[busV Y3.now Y3.ser (.slice a6 L6.length c6), .int .i64 (E3 : Nat)])).put (some 63) (busV Y3.now Y3.ser (.slice a6 L6.length c6))).put (some 64) (.int .i64 (E3 : Nat))).put (some 19) (.int .i64 (E3 : Nat)))) ?reg10 ?rest10
      case reg10 =>
        intro A eA
        have b11 : A.eval (.tmp 11) = .pointer (some ⟨gc, 0, none⟩) := by rw [eA]; rfl
        have bs : A.eval (.tmp 3) = .int .i64 ser := by rw [eA]; rfl
        have hs : 111 ≤ A.tmps.size := by rw [eA]; exact of_decide_eq_true rfl
        clear eA
        have h0 : BuAt Wb.drew gc 0 (kk : Nat) (.slice (some ⟨r, 0, none⟩) kk cq) := unhide MC
        have hBr : BRd Wb.drew (some ⟨r, 0, none⟩) cq M := (unhide RO).rd
        have l1 : gc < Wb.heap.size := (unhide MC).lt
        refine region_I (S := fun W => BuAt W gc 0 (kk : Nat) (.slice (some ⟨r, 0, none⟩) kk cq)) (.rd 0 (.rd 1 (.two 2 7 (.two 3 7 (.rd 4 (.rd 5 (.rd 6 (.go 7 (.go 8 (.rd 9 .fin)))))) (.go 3 (.rd 4 (.rd 5 (.rd 6 (.go 8 (.rd 9 .fin))))))) (.go 2 (.go 3 (.rd 4 (.rd 5 (.rd 6 (.go 8 (.rd 9 .fin)))))))))) [] (by kernel_rfl) (by kernel_rfl) ?_
        refine sI_read (v := (busV 0 (kk : Nat) (.slice (some ⟨r, 0, none⟩) kk cq))) rfl (fun _ _ _ h => absurd h.1 (fun e => nomatch e)) (wanted_rd rfl) h0 (fun wx hx => run_lodU (.tmp 11) rfl b11 hx) ?_
        show SeqI _ _ _ _ _ _ (Act.put _ (some 59) _) _
        refine sI_read (v := (.int .i64 ser)) rfl (fun _ _ _ h => absurd h.1 (fun e => nomatch e)) (wanted_rd rfl) h0 (fun wx _ => run_move (.tmp 3) rfl ((ev_other _ _ (by decide)).trans bs) wx) ?_
        show SeqI _ _ _ _ _ _ (Act.put _ (some 60) _) _
        refine sI_two rfl rfl (wanted_rd rfl) (wanted_rd rfl) ?_ ?_
        · intro K hK
          refine wp_call2 _ 7 (.tmp 60) (.const (.int .i64 100)) _ rfl (ev_same _ _ _ (by simp only [sz_put]; omega)) rfl (enter_spot _ _ _) (spF_any ser 100 (by omega) (by omega) _) ?_
          rw [← unhide ES]
          rintro e wq ⟨rfl, hq⟩
          obtain rfl : Wb.drew = wq := hq.symm
          refine ⟨_, rfl, ?_⟩
          refine hK _ _ (fun _ => h0) ?_
          clear hK K
          show SeqI _ _ _ _ _ _ (Act.put _ (some 61) _) _
          refine sI_two rfl rfl (wanted_rd rfl) (wanted_rd rfl) ?_ ?_
          · intro K hK
            refine wp_call2 _ 9 (.tmp 59) (.tmp 61) _ rfl ((ev_other _ _ (by decide)).trans ((ev_other _ _ (by decide)).trans (ev_same _ _ _ (by omega)))) (ev_same _ _ _ (by simp only [sz_put]; omega)) (enter_loseM _ _ _) (unhide CLOSE _ hBr) ?_
            rintro e w1 ⟨a6, c6, L6, rfl, t6, n1, k1⟩
            have h1 := h0.below k1
            have j1 : Below Wb.drew.heap.size Wb.drew w1 := (Below.refl Wb.drew.heap.size Wb.drew).trans (k1.mono (Below.refl Wb.drew.heap.size Wb.drew).size)
            refine ⟨_, rfl, ?_⟩
            refine hK _ _ (fun _ => h1) ?_
            clear hK K
            show SeqI _ _ _ _ _ _ (Act.put _ (some 62) _) _
            refine sI_read (v := (.tuple #[busV Y3.now Y3.ser (.slice a6 L6.length c6), .int .i64 (E3 : Nat)])) rfl (fun _ _ _ h => absurd h.1 (fun e => nomatch e)) (wanted_rd rfl) h1 (fun wx _ => run_move (.tmp 62) rfl (ev_same _ _ _ (by simp only [sz_put]; omega)) wx) ?_
            show SeqI _ _ _ _ _ _ (Act.put _ (some 58) _) _
            refine sI_read (v := (busV Y3.now Y3.ser (.slice a6 L6.length c6))) rfl (fun _ _ _ h => absurd h.1 (fun e => nomatch e)) (wanted_rd rfl) h1 (fun wx _ => run_get2 (.tmp 58) 0 rfl (ev_same _ _ _ (by simp only [sz_put]; omega)) rfl wx) ?_
            show SeqI _ _ _ _ _ _ (Act.put _ (some 63) _) _
            refine sI_read (v := (.int .i64 (E3 : Nat))) rfl (fun _ _ _ h => absurd h.1 (fun e => nomatch e)) (wanted_rd rfl) h1 (fun wx _ => run_get2 (.tmp 58) 1 rfl ((ev_other _ _ (by decide)).trans (ev_same _ _ _ (by simp only [sz_put]; omega))) rfl wx) ?_
            show SeqI _ _ _ _ _ _ (Act.put _ (some 64) _) _
            refine sI_do rfl (wanted_rd rfl) (fun K hK => ?_)
            refine wp_allocU _ rfl ?_
            intro w2 m2 k2 z2
            have h2 := h1.below k2
            have j2 : Below Wb.drew.heap.size Wb.drew w2 := j1.trans (k2.mono j1.size)
            have hg : Wb.heap.size ≤ w1.heap.size := j1.size
            have lb := k2
            refine hK _ _ (fun _ => h2) ?_
            clear hK K
            show SeqI _ _ _ _ _ _ (Act.put _ (some 18) _) _
            refine sI_do rfl (wanted_rd rfl) (fun K hK => ?_)
            refine wp_storeU _ (.tmp 18) (.tmp 63) rfl (ev_same _ _ _ (by simp only [sz_put]; omega)) ((ev_other _ _ (by decide)).trans ((ev_other _ _ (by decide)).trans (ev_same _ _ _ (by simp only [sz_put]; omega)))) m2 rfl ?_
            intro w3 m3 k3 z3
            have h3 := h2.kept k3 (by omega)
            refine hK _ _ (fun _ => h3) ?_
            clear hK K
            refine sI_read (v := (.int .i64 (E3 : Nat))) rfl (fun _ _ _ h => absurd h.1 (fun e => nomatch e)) (wanted_rd rfl) h3 (fun wx _ => run_assign (.tmp 64) rfl ((ev_other _ _ (by decide)).trans (ev_same _ _ _ (by simp only [sz_put]; omega))) wx) ?_
            show SeqI _ _ _ _ _ _ (Act.put _ (some 19) _) _
            have jj : Below Wb.heap.size Wb w3 := below_of_kept ((below_drew (Below.refl _ _)).trans (show Below Wb.heap.size Wb.drew w2 from j2)) k3 hg (show Wb.heap.size ≤ w2.heap.size from j2.size)
            exact sI_end ⟨rfl, a6, c6, L6, w1.heap.size, Wb.drew.heap.size, w1.heap.size, (((SmX.of n1 (fun d hd => ((unhide OK3).2.2.1 d.p (t6.mem hd)).2.2.2.2.2)).below lb).kept k3 (Or.inr (Nat.le_refl _))), (by rw [t6.len]; exact (unhide OK3).2.2.2), m3, jj, hg, (Or.inr (Nat.le_refl _)), (show Wb.heap.size ≤ Wb.drew.heap.size from (Below.refl Wb.drew.heap.size Wb.drew).size), k1.size, Nat.le_trans lb.size k3.size, (by rw [put_swap _ 64 18 _ _ (by decide), put_swap _ 63 18 _ _ (by decide), put_swap _ 58 18 _ _ (by decide), put_swap _ 62 18 _ _ (by decide), put_swap _ 61 18 _ _ (by decide)]; first | done | rfl)⟩
          · intro K hK
            refine wp_allocU _ rfl ?_
            intro w1 m1 k1 z1
            have h1 := h0.below k1
            have j1 : Below Wb.drew.heap.size Wb.drew w1 := (Below.refl Wb.drew.heap.size Wb.drew).trans (k1.mono (Below.refl Wb.drew.heap.size Wb.drew).size)
            have hg : Wb.heap.size ≤ Wb.drew.heap.size := (Below.refl Wb.drew.heap.size Wb.drew).size
            refine hK _ _ (fun _ => h1) ?_
            clear hK K
            show SeqI _ _ _ _ _ _ (Act.put _ (some 18) _) _
            refine sI_do rfl (wanted_rd rfl) (fun K hK => ?_)
            refine wp_call2 _ 9 (.tmp 59) (.tmp 61) _ rfl ((ev_other _ _ (by decide)).trans ((ev_other _ _ (by decide)).trans ((ev_other _ _ (by decide)).trans (ev_same _ _ _ (by omega))))) ((ev_other _ _ (by decide)).trans (ev_same _ _ _ (by simp only [sz_put]; omega))) (enter_loseM _ _ _) (unhide CLOSE _ (hBr.below j1)) ?_
            rintro e w2 ⟨a6, c6, L6, rfl, t6, n2, k2⟩
            have h2 := h1.below k2
            have j2 : Below Wb.drew.heap.size Wb.drew w2 := j1.trans (k2.mono j1.size)
            have m2 := m1.below k2
            refine ⟨_, rfl, ?_⟩
            refine hK _ _ (fun _ => h2) ?_
            clear hK K
            show SeqI _ _ _ _ _ _ (Act.put _ (some 62) _) _
            refine sI_read (v := (.tuple #[busV Y3.now Y3.ser (.slice a6 L6.length c6), .int .i64 (E3 : Nat)])) rfl (fun _ _ _ h => absurd h.1 (fun e => nomatch e)) (wanted_rd rfl) h2 (fun wx _ => run_move (.tmp 62) rfl (ev_same _ _ _ (by simp only [sz_put]; omega)) wx) ?_
            show SeqI _ _ _ _ _ _ (Act.put _ (some 58) _) _
            refine sI_read (v := (busV Y3.now Y3.ser (.slice a6 L6.length c6))) rfl (fun _ _ _ h => absurd h.1 (fun e => nomatch e)) (wanted_rd rfl) h2 (fun wx _ => run_get2 (.tmp 58) 0 rfl (ev_same _ _ _ (by simp only [sz_put]; omega)) rfl wx) ?_
            show SeqI _ _ _ _ _ _ (Act.put _ (some 63) _) _
            refine sI_read (v := (.int .i64 (E3 : Nat))) rfl (fun _ _ _ h => absurd h.1 (fun e => nomatch e)) (wanted_rd rfl) h2 (fun wx _ => run_get2 (.tmp 58) 1 rfl ((ev_other _ _ (by decide)).trans (ev_same _ _ _ (by simp only [sz_put]; omega))) rfl wx) ?_
            show SeqI _ _ _ _ _ _ (Act.put _ (some 64) _) _
            refine sI_do rfl (wanted_rd rfl) (fun K hK => ?_)
            refine wp_storeU _ (.tmp 18) (.tmp 63) rfl ((ev_other _ _ (by decide)).trans ((ev_other _ _ (by decide)).trans ((ev_other _ _ (by decide)).trans ((ev_other _ _ (by decide)).trans (ev_same _ _ _ (by simp only [sz_put]; omega)))))) ((ev_other _ _ (by decide)).trans (ev_same _ _ _ (by simp only [sz_put]; omega))) m2 rfl ?_
            intro w3 m3 k3 z3
            have h3 := h2.kept k3 (by omega)
            refine hK _ _ (fun _ => h3) ?_
            clear hK K
            refine sI_read (v := (.int .i64 (E3 : Nat))) rfl (fun _ _ _ h => absurd h.1 (fun e => nomatch e)) (wanted_rd rfl) h3 (fun wx _ => run_assign (.tmp 64) rfl (ev_same _ _ _ (by simp only [sz_put]; omega)) wx) ?_
            show SeqI _ _ _ _ _ _ (Act.put _ (some 19) _) _
            have jj : Below Wb.heap.size Wb w3 := below_of_kept ((below_drew (Below.refl _ _)).trans (show Below Wb.heap.size Wb.drew w2 from j2)) k3 hg (show Wb.heap.size ≤ w2.heap.size from j2.size)
            exact sI_end ⟨rfl, a6, c6, L6, Wb.drew.heap.size, w1.heap.size, w2.heap.size, ((SmX.of n2 (fun d hd => ((unhide OK3).2.2.1 d.p (t6.mem hd)).2.2.2.2.2)).kept k3 (Or.inl (show Wb.drew.heap.size < w1.heap.size from m1.lt))), (by rw [t6.len]; exact (unhide OK3).2.2.2), m3, jj, hg, (Or.inl (show Wb.drew.heap.size < w1.heap.size from m1.lt)), (show Wb.heap.size ≤ w1.heap.size from j1.size), k2.size, k3.size, (by rw [put_swap _ 61 18 _ _ (by decide)]; first | done | rfl)⟩
        · intro K hK
          refine wp_allocU _ rfl ?_
          intro w1 m1 k1 z1
          have h1 := h0.below k1
          have j1 : Below Wb.drew.heap.size Wb.drew w1 := (Below.refl Wb.drew.heap.size Wb.drew).trans (k1.mono (Below.refl Wb.drew.heap.size Wb.drew).size)
          have hg : Wb.heap.size ≤ Wb.drew.heap.size := (Below.refl Wb.drew.heap.size Wb.drew).size
          refine hK _ _ (fun _ => h1) ?_
          clear hK K
          show SeqI _ _ _ _ _ _ (Act.put _ (some 18) _) _
          refine sI_do rfl (wanted_rd rfl) (fun K hK => ?_)
          refine wp_call2 _ 7 (.tmp 60) (.const (.int .i64 100)) _ rfl ((ev_other _ _ (by decide)).trans (ev_same _ _ _ (by simp only [sz_put]; omega))) rfl (enter_spot _ _ _) (spF_any ser 100 (by omega) (by omega) _) ?_
          rw [← unhide ES]
          rintro e wq ⟨rfl, hq⟩
          obtain rfl : w1 = wq := hq.symm
          refine ⟨_, rfl, ?_⟩
          refine hK _ _ (fun _ => h1) ?_
          clear hK K
          show SeqI _ _ _ _ _ _ (Act.put _ (some 61) _) _
          refine sI_do rfl (wanted_rd rfl) (fun K hK => ?_)
          refine wp_call2 _ 9 (.tmp 59) (.tmp 61) _ rfl ((ev_other _ _ (by decide)).trans ((ev_other _ _ (by decide)).trans ((ev_other _ _ (by decide)).trans (ev_same _ _ _ (by omega))))) (ev_same _ _ _ (by simp only [sz_put]; omega)) (enter_loseM _ _ _) (unhide CLOSE _ (hBr.below j1)) ?_
          rintro e w2 ⟨a6, c6, L6, rfl, t6, n2, k2⟩
          have h2 := h1.below k2
          have j2 : Below Wb.drew.heap.size Wb.drew w2 := j1.trans (k2.mono j1.size)
          have m2 := m1.below k2
          refine ⟨_, rfl, ?_⟩
          refine hK _ _ (fun _ => h2) ?_
          clear hK K
          show SeqI _ _ _ _ _ _ (Act.put _ (some 62) _) _
          refine sI_read (v := (.tuple #[busV Y3.now Y3.ser (.slice a6 L6.length c6), .int .i64 (E3 : Nat)])) rfl (fun _ _ _ h => absurd h.1 (fun e => nomatch e)) (wanted_rd rfl) h2 (fun wx _ => run_move (.tmp 62) rfl (ev_same _ _ _ (by simp only [sz_put]; omega)) wx) ?_
          show SeqI _ _ _ _ _ _ (Act.put _ (some 58) _) _
          refine sI_read (v := (busV Y3.now Y3.ser (.slice a6 L6.length c6))) rfl (fun _ _ _ h => absurd h.1 (fun e => nomatch e)) (wanted_rd rfl) h2 (fun wx _ => run_get2 (.tmp 58) 0 rfl (ev_same _ _ _ (by simp only [sz_put]; omega)) rfl wx) ?_
          show SeqI _ _ _ _ _ _ (Act.put _ (some 63) _) _
          refine sI_read (v := (.int .i64 (E3 : Nat))) rfl (fun _ _ _ h => absurd h.1 (fun e => nomatch e)) (wanted_rd rfl) h2 (fun wx _ => run_get2 (.tmp 58) 1 rfl ((ev_other _ _ (by decide)).trans (ev_same _ _ _ (by simp only [sz_put]; omega))) rfl wx) ?_
          show SeqI _ _ _ _ _ _ (Act.put _ (some 64) _) _
          refine sI_do rfl (wanted_rd rfl) (fun K hK => ?_)
          refine wp_storeU _ (.tmp 18) (.tmp 63) rfl ((ev_other _ _ (by decide)).trans ((ev_other _ _ (by decide)).trans ((ev_other _ _ (by decide)).trans ((ev_other _ _ (by decide)).trans ((ev_other _ _ (by decide)).trans (ev_same _ _ _ (by simp only [sz_put]; omega))))))) ((ev_other _ _ (by decide)).trans (ev_same _ _ _ (by simp only [sz_put]; omega))) m2 rfl ?_
          intro w3 m3 k3 z3
          have h3 := h2.kept k3 (by omega)
          refine hK _ _ (fun _ => h3) ?_
          clear hK K
          refine sI_read (v := (.int .i64 (E3 : Nat))) rfl (fun _ _ _ h => absurd h.1 (fun e => nomatch e)) (wanted_rd rfl) h3 (fun wx _ => run_assign (.tmp 64) rfl (ev_same _ _ _ (by simp only [sz_put]; omega)) wx) ?_
          show SeqI _ _ _ _ _ _ (Act.put _ (some 19) _) _
          have jj : Below Wb.heap.size Wb w3 := below_of_kept ((below_drew (Below.refl _ _)).trans (show Below Wb.heap.size Wb.drew w2 from j2)) k3 hg (show Wb.heap.size ≤ w2.heap.size from j2.size)
          exact sI_end ⟨rfl, a6, c6, L6, Wb.drew.heap.size, w1.heap.size, w2.heap.size, ((SmX.of n2 (fun d hd => ((unhide OK3).2.2.1 d.p (t6.mem hd)).2.2.2.2.2)).kept k3 (Or.inl (show Wb.drew.heap.size < w1.heap.size from m1.lt))), (by rw [t6.len]; exact (unhide OK3).2.2.2), m3, jj, hg, (Or.inl (show Wb.drew.heap.size < w1.heap.size from m1.lt)), (show Wb.heap.size ≤ w1.heap.size from j1.size), k2.size, k3.size, rfl⟩
      case rest10 =>
        rintro a' Wc ⟨a9, c9, L9, g3, U3, T3, sx3, ln3, mu3, j3, hg3, hd3, hU3, hT3, hTc, rfl⟩
        have MC := hide ((unhide MC).below j3); have RO := hide ((unhide RO).below j3); have M1 := hide ((unhide M1).below j3); have SX1 := hide ((unhide SX1).below j3)
        have M2b := hide ((unhide M2b).below j3); have SX2 := hide ((unhide SX2).below j3); have SP2 := hide ((unhide SP2).below j3); have M3b := hide mu3; have SX3 := hide sx3
        have J6 := hide ((unhide J6).trans (j3.mono (unhide J6).size))
        have l3 : g3 < Wc.heap.size := mu3.lt
        have hb3 : Wb.heap.size ≤ Wc.heap.size := j3.size
        clear sx3 mu3 j3
        go_frame
        go_wp2_with fail
        refine wp_leaves (fun a0 a' w' => ∃ (a6 : Option Addr) (c6 : Nat) (L6 : List Lp) (g8 Ux Tx : Nat), SmX w' Ux Tx (.slice a6 L6.length c6) L6.length ∧ L6.length ≤ 2513169434843 ∧ BuAt w' g8 Y4.now Y4.ser (.slice a6 L6.length c6) ∧ Below Wc.heap.size Wc w' ∧ Wc.heap.size ≤ g8 ∧ (g8 < Ux ∨ Tx ≤ g8) ∧ Wc.heap.size ≤ Ux ∧ Ux ≤ Tx ∧ Tx ≤ w'.heap.size ∧ a' = (((((((((a0.put (some 66) (busV 0 (kk : Nat) (.slice (some ⟨r, 0, none⟩) kk cq))).put (some 67) (.int .i64 ser)).put (some 20) (.pointer (some ⟨g8, 0, none⟩))).put (some 68) (.int .i64 (Ss : Nat))).put (some 69) (.tuple #[busV Y4.now Y4.ser (.slice a6 L6.length c6), .int .i64 (E4 : Nat)])).put (some 65) (.tuple #[busV Y4.now Y4.ser (.slice a6 L6.length c6), .int .i64 (E4 : Nat)])).put (some 70) (busV Y4.now Y4.ser (.slice a6 L6.length c6))).put (some 71) (.int .i64 (E4 : Nat))).put (some 21) (.int .i64 (E4 : Nat)))) ?reg11 ?rest11
        case reg11 =>
          intro A eA
          have b11 : A.eval (.tmp 11) = .pointer (some ⟨gc, 0, none⟩) := by rw [eA]; rfl
          have bs : A.eval (.tmp 3) = .int .i64 ser := by rw [eA]; rfl
          have hs : 111 ≤ A.tmps.size := by rw [eA]; exact of_decide_eq_true rfl
          clear eA
          have h0 : BuAt Wc.drew gc 0 (kk : Nat) (.slice (some ⟨r, 0, none⟩) kk cq) := unhide MC
          have hBr : BRd Wc.drew (some ⟨r, 0, none⟩) cq M := (unhide RO).rd
          have l1 : gc < Wc.heap.size := (unhide MC).lt
          refine region_I (S := fun W => BuAt W gc 0 (kk : Nat) (.slice (some ⟨r, 0, none⟩) kk cq)) (.rd 0 (.rd 1 (.two 2 7 (.two 3 7 (.rd 4 (.rd 5 (.rd 6 (.go 7 (.go 8 (.rd 9 .fin)))))) (.go 3 (.rd 4 (.rd 5 (.rd 6 (.go 8 (.rd 9 .fin))))))) (.go 2 (.go 3 (.rd 4 (.rd 5 (.rd 6 (.go 8 (.rd 9 .fin)))))))))) [] (by kernel_rfl) (by kernel_rfl) ?_
          refine sI_read (v := (busV 0 (kk : Nat) (.slice (some ⟨r, 0, none⟩) kk cq))) rfl (fun _ _ _ h => absurd h.1 (fun e => nomatch e)) (wanted_rd rfl) h0 (fun wx hx => run_lodU (.tmp 11) rfl b11 hx) ?_
          show SeqI _ _ _ _ _ _ (Act.put _ (some 66) _) _
          refine sI_read (v := (.int .i64 ser)) rfl (fun _ _ _ h => absurd h.1 (fun e => nomatch e)) (wanted_rd rfl) h0 (fun wx _ => run_move (.tmp 3) rfl ((ev_other _ _ (by decide)).trans bs) wx) ?_
          show SeqI _ _ _ _ _ _ (Act.put _ (some 67) _) _
          refine sI_two rfl rfl (wanted_rd rfl) (wanted_rd rfl) ?_ ?_
          · intro K hK
            refine wp_call2 _ 7 (.tmp 67) (.const (.int .i64 100)) _ rfl (ev_same _ _ _ (by simp only [sz_put]; omega)) rfl (enter_spot _ _ _) (spF_any ser 100 (by omega) (by omega) _) ?_
            rw [← unhide ES]
            rintro e wq ⟨rfl, hq⟩
            obtain rfl : Wc.drew = wq := hq.symm
            refine ⟨_, rfl, ?_⟩
            refine hK _ _ (fun _ => h0) ?_
            clear hK K
            show SeqI _ _ _ _ _ _ (Act.put _ (some 68) _) _
            refine sI_two rfl rfl (wanted_rd rfl) (wanted_rd rfl) ?_ ?_
            · intro K hK
              refine wp_call4 _ 8 (.tmp 66) (.tmp 68) (.const (.int .i64 0)) (.const (.int .i64 1)) _ rfl ((ev_other _ _ (by decide)).trans ((ev_other _ _ (by decide)).trans (ev_same _ _ _ (by omega)))) (ev_same _ _ _ (by simp only [sz_put]; omega)) rfl rfl (enter_turnM _ _ _ _ _) (unhide CTURN _ hBr) ?_
              rintro e w1 ⟨a6, c6, L6, rfl, t6, n1, k1⟩
              have h1 := h0.below k1
              have j1 : Below Wc.drew.heap.size Wc.drew w1 := (Below.refl Wc.drew.heap.size Wc.drew).trans (k1.mono (Below.refl Wc.drew.heap.size Wc.drew).size)
              refine ⟨_, rfl, ?_⟩
              refine hK _ _ (fun _ => h1) ?_
              clear hK K
              show SeqI _ _ _ _ _ _ (Act.put _ (some 69) _) _
              refine sI_read (v := (.tuple #[busV Y4.now Y4.ser (.slice a6 L6.length c6), .int .i64 (E4 : Nat)])) rfl (fun _ _ _ h => absurd h.1 (fun e => nomatch e)) (wanted_rd rfl) h1 (fun wx _ => run_move (.tmp 69) rfl (ev_same _ _ _ (by simp only [sz_put]; omega)) wx) ?_
              show SeqI _ _ _ _ _ _ (Act.put _ (some 65) _) _
              refine sI_read (v := (busV Y4.now Y4.ser (.slice a6 L6.length c6))) rfl (fun _ _ _ h => absurd h.1 (fun e => nomatch e)) (wanted_rd rfl) h1 (fun wx _ => run_get2 (.tmp 65) 0 rfl (ev_same _ _ _ (by simp only [sz_put]; omega)) rfl wx) ?_
              show SeqI _ _ _ _ _ _ (Act.put _ (some 70) _) _
              refine sI_read (v := (.int .i64 (E4 : Nat))) rfl (fun _ _ _ h => absurd h.1 (fun e => nomatch e)) (wanted_rd rfl) h1 (fun wx _ => run_get2 (.tmp 65) 1 rfl ((ev_other _ _ (by decide)).trans (ev_same _ _ _ (by simp only [sz_put]; omega))) rfl wx) ?_
              show SeqI _ _ _ _ _ _ (Act.put _ (some 71) _) _
              refine sI_do rfl (wanted_rd rfl) (fun K hK => ?_)
              refine wp_allocU _ rfl ?_
              intro w2 m2 k2 z2
              have h2 := h1.below k2
              have j2 : Below Wc.drew.heap.size Wc.drew w2 := j1.trans (k2.mono j1.size)
              have hg : Wc.heap.size ≤ w1.heap.size := j1.size
              have lb := k2
              refine hK _ _ (fun _ => h2) ?_
              clear hK K
              show SeqI _ _ _ _ _ _ (Act.put _ (some 20) _) _
              refine sI_do rfl (wanted_rd rfl) (fun K hK => ?_)
              refine wp_storeU _ (.tmp 20) (.tmp 70) rfl (ev_same _ _ _ (by simp only [sz_put]; omega)) ((ev_other _ _ (by decide)).trans ((ev_other _ _ (by decide)).trans (ev_same _ _ _ (by simp only [sz_put]; omega)))) m2 rfl ?_
              intro w3 m3 k3 z3
              have h3 := h2.kept k3 (by omega)
              refine hK _ _ (fun _ => h3) ?_
              clear hK K
              refine sI_read (v := (.int .i64 (E4 : Nat))) rfl (fun _ _ _ h => absurd h.1 (fun e => nomatch e)) (wanted_rd rfl) h3 (fun wx _ => run_assign (.tmp 71) rfl ((ev_other _ _ (by decide)).trans (ev_same _ _ _ (by simp only [sz_put]; omega))) wx) ?_
              show SeqI _ _ _ _ _ _ (Act.put _ (some 21) _) _
              have jj : Below Wc.heap.size Wc w3 := below_of_kept ((below_drew (Below.refl _ _)).trans (show Below Wc.heap.size Wc.drew w2 from j2)) k3 hg (show Wc.heap.size ≤ w2.heap.size from j2.size)
              exact sI_end ⟨rfl, a6, c6, L6, w1.heap.size, Wc.drew.heap.size, w1.heap.size, (((SmX.of n1 (fun d hd => ((unhide OK4).2.2.1 d.p (t6.mem hd)).2.2.2.2.2)).below lb).kept k3 (Or.inr (Nat.le_refl _))), (by rw [t6.len]; exact (unhide OK4).2.2.2), m3, jj, hg, (Or.inr (Nat.le_refl _)), (show Wc.heap.size ≤ Wc.drew.heap.size from (Below.refl Wc.drew.heap.size Wc.drew).size), k1.size, Nat.le_trans lb.size k3.size, (by rw [put_swap _ 71 20 _ _ (by decide), put_swap _ 70 20 _ _ (by decide), put_swap _ 65 20 _ _ (by decide), put_swap _ 69 20 _ _ (by decide), put_swap _ 68 20 _ _ (by decide)]; first | done | rfl)⟩
            · intro K hK
              refine wp_allocU _ rfl ?_
              intro w1 m1 k1 z1
              have h1 := h0.below k1
              have j1 : Below Wc.drew.heap.size Wc.drew w1 := (Below.refl Wc.drew.heap.size Wc.drew).trans (k1.mono (Below.refl Wc.drew.heap.size Wc.drew).size)
              have hg : Wc.heap.size ≤ Wc.drew.heap.size := (Below.refl Wc.drew.heap.size Wc.drew).size
              refine hK _ _ (fun _ => h1) ?_
              clear hK K
              show SeqI _ _ _ _ _ _ (Act.put _ (some 20) _) _
              refine sI_do rfl (wanted_rd rfl) (fun K hK => ?_)
              refine wp_call4 _ 8 (.tmp 66) (.tmp 68) (.const (.int .i64 0)) (.const (.int .i64 1)) _ rfl ((ev_other _ _ (by decide)).trans ((ev_other _ _ (by decide)).trans ((ev_other _ _ (by decide)).trans (ev_same _ _ _ (by omega))))) ((ev_other _ _ (by decide)).trans (ev_same _ _ _ (by simp only [sz_put]; omega))) rfl rfl (enter_turnM _ _ _ _ _) (unhide CTURN _ (hBr.below j1)) ?_
              rintro e w2 ⟨a6, c6, L6, rfl, t6, n2, k2⟩
              have h2 := h1.below k2
              have j2 : Below Wc.drew.heap.size Wc.drew w2 := j1.trans (k2.mono j1.size)
              have m2 := m1.below k2
              refine ⟨_, rfl, ?_⟩
              refine hK _ _ (fun _ => h2) ?_
              clear hK K
              show SeqI _ _ _ _ _ _ (Act.put _ (some 69) _) _
              refine sI_read (v := (.tuple #[busV Y4.now Y4.ser (.slice a6 L6.length c6), .int .i64 (E4 : Nat)])) rfl (fun _ _ _ h => absurd h.1 (fun e => nomatch e)) (wanted_rd rfl) h2 (fun wx _ => run_move (.tmp 69) rfl (ev_same _ _ _ (by simp only [sz_put]; omega)) wx) ?_
              show SeqI _ _ _ _ _ _ (Act.put _ (some 65) _) _
              refine sI_read (v := (busV Y4.now Y4.ser (.slice a6 L6.length c6))) rfl (fun _ _ _ h => absurd h.1 (fun e => nomatch e)) (wanted_rd rfl) h2 (fun wx _ => run_get2 (.tmp 65) 0 rfl (ev_same _ _ _ (by simp only [sz_put]; omega)) rfl wx) ?_
              show SeqI _ _ _ _ _ _ (Act.put _ (some 70) _) _
              refine sI_read (v := (.int .i64 (E4 : Nat))) rfl (fun _ _ _ h => absurd h.1 (fun e => nomatch e)) (wanted_rd rfl) h2 (fun wx _ => run_get2 (.tmp 65) 1 rfl ((ev_other _ _ (by decide)).trans (ev_same _ _ _ (by simp only [sz_put]; omega))) rfl wx) ?_
              show SeqI _ _ _ _ _ _ (Act.put _ (some 71) _) _
              refine sI_do rfl (wanted_rd rfl) (fun K hK => ?_)
              refine wp_storeU _ (.tmp 20) (.tmp 70) rfl ((ev_other _ _ (by decide)).trans ((ev_other _ _ (by decide)).trans ((ev_other _ _ (by decide)).trans ((ev_other _ _ (by decide)).trans (ev_same _ _ _ (by simp only [sz_put]; omega)))))) ((ev_other _ _ (by decide)).trans (ev_same _ _ _ (by simp only [sz_put]; omega))) m2 rfl ?_
              intro w3 m3 k3 z3
              have h3 := h2.kept k3 (by omega)
              refine hK _ _ (fun _ => h3) ?_
              clear hK K
              refine sI_read (v := (.int .i64 (E4 : Nat))) rfl (fun _ _ _ h => absurd h.1 (fun e => nomatch e)) (wanted_rd rfl) h3 (fun wx _ => run_assign (.tmp 71) rfl (ev_same _ _ _ (by simp only [sz_put]; omega)) wx) ?_
              show SeqI _ _ _ _ _ _ (Act.put _ (some 21) _) _
              have jj : Below Wc.heap.size Wc w3 := below_of_kept ((below_drew (Below.refl _ _)).trans (show Below Wc.heap.size Wc.drew w2 from j2)) k3 hg (show Wc.heap.size ≤ w2.heap.size from j2.size)
              exact sI_end ⟨rfl, a6, c6, L6, Wc.drew.heap.size, w1.heap.size, w2.heap.size, ((SmX.of n2 (fun d hd => ((unhide OK4).2.2.1 d.p (t6.mem hd)).2.2.2.2.2)).kept k3 (Or.inl (show Wc.drew.heap.size < w1.heap.size from m1.lt))), (by rw [t6.len]; exact (unhide OK4).2.2.2), m3, jj, hg, (Or.inl (show Wc.drew.heap.size < w1.heap.size from m1.lt)), (show Wc.heap.size ≤ w1.heap.size from j1.size), k2.size, k3.size, (by rw [put_swap _ 68 20 _ _ (by decide)]; first | done | rfl)⟩
          · intro K hK
            refine wp_allocU _ rfl ?_
            intro w1 m1 k1 z1
            have h1 := h0.below k1
            have j1 : Below Wc.drew.heap.size Wc.drew w1 := (Below.refl Wc.drew.heap.size Wc.drew).trans (k1.mono (Below.refl Wc.drew.heap.size Wc.drew).size)
            have hg : Wc.heap.size ≤ Wc.drew.heap.size := (Below.refl Wc.drew.heap.size Wc.drew).size
            refine hK _ _ (fun _ => h1) ?_
            clear hK K
            show SeqI _ _ _ _ _ _ (Act.put _ (some 20) _) _
            refine sI_do rfl (wanted_rd rfl) (fun K hK => ?_)
            refine wp_call2 _ 7 (.tmp 67) (.const (.int .i64 100)) _ rfl ((ev_other _ _ (by decide)).trans (ev_same _ _ _ (by simp only [sz_put]; omega))) rfl (enter_spot _ _ _) (spF_any ser 100 (by omega) (by omega) _) ?_
            rw [← unhide ES]
            rintro e wq ⟨rfl, hq⟩
            obtain rfl : w1 = wq := hq.symm
            refine ⟨_, rfl, ?_⟩
            refine hK _ _ (fun _ => h1) ?_
            clear hK K
            show SeqI _ _ _ _ _ _ (Act.put _ (some 68) _) _
            refine sI_do rfl (wanted_rd rfl) (fun K hK => ?_)
            refine wp_call4 _ 8 (.tmp 66) (.tmp 68) (.const (.int .i64 0)) (.const (.int .i64 1)) _ rfl ((ev_other _ _ (by decide)).trans ((ev_other _ _ (by decide)).trans ((ev_other _ _ (by decide)).trans (ev_same _ _ _ (by omega))))) (ev_same _ _ _ (by simp only [sz_put]; omega)) rfl rfl (enter_turnM _ _ _ _ _) (unhide CTURN _ (hBr.below j1)) ?_
            rintro e w2 ⟨a6, c6, L6, rfl, t6, n2, k2⟩
            have h2 := h1.below k2
            have j2 : Below Wc.drew.heap.size Wc.drew w2 := j1.trans (k2.mono j1.size)
            have m2 := m1.below k2
            refine ⟨_, rfl, ?_⟩
            refine hK _ _ (fun _ => h2) ?_
            clear hK K
            show SeqI _ _ _ _ _ _ (Act.put _ (some 69) _) _
            refine sI_read (v := (.tuple #[busV Y4.now Y4.ser (.slice a6 L6.length c6), .int .i64 (E4 : Nat)])) rfl (fun _ _ _ h => absurd h.1 (fun e => nomatch e)) (wanted_rd rfl) h2 (fun wx _ => run_move (.tmp 69) rfl (ev_same _ _ _ (by simp only [sz_put]; omega)) wx) ?_
            show SeqI _ _ _ _ _ _ (Act.put _ (some 65) _) _
            refine sI_read (v := (busV Y4.now Y4.ser (.slice a6 L6.length c6))) rfl (fun _ _ _ h => absurd h.1 (fun e => nomatch e)) (wanted_rd rfl) h2 (fun wx _ => run_get2 (.tmp 65) 0 rfl (ev_same _ _ _ (by simp only [sz_put]; omega)) rfl wx) ?_
            show SeqI _ _ _ _ _ _ (Act.put _ (some 70) _) _
            refine sI_read (v := (.int .i64 (E4 : Nat))) rfl (fun _ _ _ h => absurd h.1 (fun e => nomatch e)) (wanted_rd rfl) h2 (fun wx _ => run_get2 (.tmp 65) 1 rfl ((ev_other _ _ (by decide)).trans (ev_same _ _ _ (by simp only [sz_put]; omega))) rfl wx) ?_
            show SeqI _ _ _ _ _ _ (Act.put _ (some 71) _) _
            refine sI_do rfl (wanted_rd rfl) (fun K hK => ?_)
            refine wp_storeU _ (.tmp 20) (.tmp 70) rfl ((ev_other _ _ (by decide)).trans ((ev_other _ _ (by decide)).trans ((ev_other _ _ (by decide)).trans ((ev_other _ _ (by decide)).trans ((ev_other _ _ (by decide)).trans (ev_same _ _ _ (by simp only [sz_put]; omega))))))) ((ev_other _ _ (by decide)).trans (ev_same _ _ _ (by simp only [sz_put]; omega))) m2 rfl ?_
            intro w3 m3 k3 z3
            have h3 := h2.kept k3 (by omega)
            refine hK _ _ (fun _ => h3) ?_
            clear hK K
            refine sI_read (v := (.int .i64 (E4 : Nat))) rfl (fun _ _ _ h => absurd h.1 (fun e => nomatch e)) (wanted_rd rfl) h3 (fun wx _ => run_assign (.tmp 71) rfl (ev_same _ _ _ (by simp only [sz_put]; omega)) wx) ?_
            show SeqI _ _ _ _ _ _ (Act.put _ (some 21) _) _
            have jj : Below Wc.heap.size Wc w3 := below_of_kept ((below_drew (Below.refl _ _)).trans (show Below Wc.heap.size Wc.drew w2 from j2)) k3 hg (show Wc.heap.size ≤ w2.heap.size from j2.size)
            exact sI_end ⟨rfl, a6, c6, L6, Wc.drew.heap.size, w1.heap.size, w2.heap.size, ((SmX.of n2 (fun d hd => ((unhide OK4).2.2.1 d.p (t6.mem hd)).2.2.2.2.2)).kept k3 (Or.inl (show Wc.drew.heap.size < w1.heap.size from m1.lt))), (by rw [t6.len]; exact (unhide OK4).2.2.2), m3, jj, hg, (Or.inl (show Wc.drew.heap.size < w1.heap.size from m1.lt)), (show Wc.heap.size ≤ w1.heap.size from j1.size), k2.size, k3.size, rfl⟩
        case rest11 =>
          rintro a' Wd ⟨a10, c10, L10, g4, U4, T4, sx4, ln4, mu4, j4, hg4, hd4, hU4, hT4, hTd, rfl⟩
          have MC := hide ((unhide MC).below j4); have RO := hide ((unhide RO).below j4); have M1 := hide ((unhide M1).below j4); have SX1 := hide ((unhide SX1).below j4)
          have M2b := hide ((unhide M2b).below j4); have SX2 := hide ((unhide SX2).below j4); have SP2 := hide ((unhide SP2).below j4); have M3b := hide ((unhide M3b).below j4); have SX3 := hide ((unhide SX3).below j4); have M4b := hide mu4; have SX4 := hide sx4
          have J6 := hide ((unhide J6).trans (j4.mono (unhide J6).size))
          have l4 : g4 < Wd.heap.size := mu4.lt
          have hb4 : Wc.heap.size ≤ Wd.heap.size := j4.size
          clear sx4 mu4 j4
          go_frame
          go_wp2_with fail
          obtain ⟨Us, eUs⟩ : ∃ Us, Us = w6.heap.size := ⟨_, rfl⟩
          obtain ⟨Ts, eTs⟩ : ∃ Ts, Ts = w7.heap.size := ⟨_, rfl⟩
          have zz := unhide Zg1
          rw [← eUs, ← eTs] at SX1
          have hz1 : Us ≤ Ts ∧ Ts ≤ g1 ∧ W.heap.size = Ts + 1 := by omega
          have hWd : W.heap.size ≤ Wd.heap.size := by omega
          have EUs := hide eUs
          clear zz eUs eTs
          go_loopw [22] (fun is wr => ∃ i : Nat, i ≤ PL.length ∧ is = .int .i64 (i : Nat) ∧ SmX wr U2 T2 (.slice pa PL.length pc) PL.length ∧ SmX wr U2 T2 (.slice a8 L8.length c8) L8.length ∧ KI U2 T2 Wd wr) (fun is _ => PL.length - (intOf is).toNat)
          case atStart => exact ⟨0, Nat.zero_le _, rfl, unhide SP2, unhide SX2, ⟨rfl, rfl, rfl, Nat.le_refl _, fun _ _ _ => rfl⟩⟩
          case round =>
            obtain ⟨i, hi, rfl, hp, hu, hki⟩ := hrel
            rename World => wo
            by_cases hin : i < PL.length
            · have hin' : (i : Int) < (PL.length : Nat) := by omega
              obtain ⟨po, pp, A, m, c, ep, hsm⟩ := hp
              cases ep
              obtain ⟨bq, oq, epa, hq1, hq2, hqc⟩ := hsm.cell (by omega)
              subst epa
              have HSM := hide hsm; have HU := hide hu; have HKI := hide hki
              have hmi := (hsm.2.2.2 i hin).2.1
              clear hsm hu hki hqc
              go_wp2_with fail
              go_loopw [23] (fun ks wr => ∃ k : Nat, k ≤ m i ∧ ks = .int .i64 (k : Nat) ∧ SmB U2 T2 wr (some ⟨bq, oq, none⟩) PL.length pc A m c ∧ SmX wr U2 T2 (.slice a8 L8.length c8) L8.length ∧ KI U2 T2 Wd wr) (fun ks _ => m i - (intOf ks).toNat)
              case atStart => exact ⟨0, Nat.zero_le _, rfl, unhide HSM, unhide HU, unhide HKI⟩
              case round =>
                obtain ⟨k, hk, rfl, hsm, hu, hki⟩ := hrel
                rename World => wr
                obtain ⟨b2, o2, eb, _, _, hc2⟩ := hsm.cell (by omega)
                cases eb
                have y4 := (hc2 i hin).1
                by_cases hkm : k < m i
                · obtain ⟨bb, ob, cb, ea, hb1, hb2, hb3, hb4⟩ := hsm.bytes hin (by have := (hsm.2.2.2 i hin).1; omega)
                  have hcm := (hsm.2.2.2 i hin).1
                  have hlt : ob + k < cb.size := by omega
                  have z1 : wr.cell? ⟨bb, ob + k, none⟩ = some cb[ob + k] := by unfold World.cell?; rw [hb3]; exact Array.getElem?_eq_getElem hlt
                  have z2 : wr.frozen? ⟨bb, ob + k, none⟩ = false := by simp [World.frozen?, hb3]
                  have H1 := hide (hsm.byte (x := ob + k) (.int .u8 55) hb3); have H2 := hide (hu.byte (x := ob + k) (.int .u8 55) hb3); have H3 := hide (KI.put (off := ob + k) (.int .u8 55) hki hb1 (Or.inl hb2))
                  rw [ea] at y4
                  have hkm' : (k : Int) < (m i : Nat) := by omega
                  generalize cb[ob + k] = uu at z1
                  generalize m i = mi at *
                  generalize c i = ci at *
                  clear hsm hu hki hc2 ea hb3 hb4 hcm
                  go_wp2_with fail
                  go_roundw
                  case rel => exact ⟨k + 1, by omega, by go_num, unhide H1, unhide H2, unhide H3⟩
                  case measure => simp [intOf] <;> omega
                · have e9 : k = m i := by omega
                  subst e9
                  have H1 := hide (show SmX wr U2 T2 (.slice (some ⟨bq, oq, none⟩) PL.length pc) PL.length from ⟨_, _, A, m, c, rfl, hsm⟩); have H2 := hide hu; have H3 := hide hki
                  clear hsm hu hki hc2
                  go_wp2_with fail
                  go_roundw
                  case rel => exact ⟨i + 1, by omega, by go_num, unhide H1, unhide H2, unhide H3⟩
                  case measure => simp [intOf] <;> omega
            · have e9 : i = PL.length := by omega
              subst e9
              have M1 := hide ((unhide M1).ki hki (by omega)); have M2b := hide ((unhide M2b).ki hki (by omega)); have M3b := hide ((unhide M3b).ki hki (by omega)); have M4b := hide ((unhide M4b).ki hki (by omega))
              have SX1 := hide ((unhide SX1).ki hki (by omega)); have SX2 := hide hu; have SX3 := hide ((unhide SX3).ki hki (by omega)); have SX4 := hide ((unhide SX4).ki hki (by omega))
              have JZ := hide (below_ki (unhide J6) hki (by have := unhide EUs; omega) (unhide J6).size)
              have hs1 : Wd.heap.size ≤ wo.heap.size := hki.size
              clear hp hu hki
              have bb1 := unhide M1
              have s0 := bb1.cell0; have s1 := bb1.cell1; have s2 := bb1.cell2
              obtain ⟨so, sc, sA, sm, sk, es, hsm⟩ := unhide SX1
              cases es
              have CX := smear_any Us Ts Y1.now Y1.ser _ _ _ sA sm sk wo hsm (by omega) (by omega) LN1
              unfold busV at CX
              clear hsm bb1
              go_wp2_with fail
              refine CX.mono ?_
              rintro e x1 ⟨rfl, kx⟩
              have M2b := hide ((unhide M2b).ki kx (by omega)); have M3b := hide ((unhide M3b).ki kx (by omega)); have M4b := hide ((unhide M4b).ki kx (by omega))
              have SX2 := hide ((unhide SX2).ki kx (by omega)); have SX3 := hide ((unhide SX3).ki kx (by omega)); have SX4 := hide ((unhide SX4).ki kx (by omega))
              have JZ := hide (below_ki (unhide JZ) kx (by have := unhide EUs; omega) (unhide JZ).size)
              have hs2 : wo.heap.size ≤ x1.heap.size := kx.size
              clear CX kx s0 s1 s2
              have bb2 := unhide M2b
              have s0 := bb2.cell0; have s1 := bb2.cell1; have s2 := bb2.cell2
              obtain ⟨so, sc, sA, sm, sk, es, hsm⟩ := unhide SX2
              cases es
              have CX := smear_any U2 T2 Y2.now Y2.ser _ _ _ sA sm sk x1 hsm (by omega) (by omega) ln2
              unfold busV at CX
              clear hsm bb2
              go_wp2_with fail
              refine CX.mono ?_
              rintro e x2 ⟨rfl, kx⟩
              have M3b := hide ((unhide M3b).ki kx (by omega)); have M4b := hide ((unhide M4b).ki kx (by omega))
              have SX3 := hide ((unhide SX3).ki kx (by omega)); have SX4 := hide ((unhide SX4).ki kx (by omega))
              have JZ := hide (below_ki (unhide JZ) kx (by have := unhide EUs; omega) (unhide JZ).size)
              have hs3 : x1.heap.size ≤ x2.heap.size := kx.size
              clear CX kx s0 s1 s2
              have bb3 := unhide M3b
              have s0 := bb3.cell0; have s1 := bb3.cell1; have s2 := bb3.cell2
              obtain ⟨so, sc, sA, sm, sk, es, hsm⟩ := unhide SX3
              cases es
              have CX := smear_any U3 T3 Y3.now Y3.ser _ _ _ sA sm sk x2 hsm (by omega) (by omega) ln3
              unfold busV at CX
              clear hsm bb3
              go_wp2_with fail
              refine CX.mono ?_
              rintro e x3 ⟨rfl, kx⟩
              have M4b := hide ((unhide M4b).ki kx (by omega))
              have SX4 := hide ((unhide SX4).ki kx (by omega))
              have JZ := hide (below_ki (unhide JZ) kx (by have := unhide EUs; omega) (unhide JZ).size)
              have hs4 : x2.heap.size ≤ x3.heap.size := kx.size
              clear CX kx s0 s1 s2
              have bb4 := unhide M4b
              have s0 := bb4.cell0; have s1 := bb4.cell1; have s2 := bb4.cell2
              obtain ⟨so, sc, sA, sm, sk, es, hsm⟩ := unhide SX4
              cases es
              have CX := smear_any U4 T4 Y4.now Y4.ser _ _ _ sA sm sk x3 hsm (by omega) (by omega) ln4
              unfold busV at CX
              clear hsm bb4
              go_wp2_with fail
              refine CX.mono ?_
              rintro e x4 ⟨rfl, kx⟩
              have JZ := below_ki (unhide JZ) kx (by have := unhide EUs; omega) (unhide JZ).size
              have mc := (unhide MC6).below JZ; have mb := (unhide MB).below JZ
              have v0 := mc.cell0; have v1 := mc.cell1; have v2 := mc.cell2; have u0 := mb.cell0; have u1 := mb.cell1; have u2 := mb.cell2
              have CY := stayedBus_any 0 (kk : Nat) (ldQ D kk) _ r cq M a1 c1 L1 x4 (fun p hp => (unhide HB).2.2.1 p (by rw [unhide EB]; exact hp)) (unhide TM) (by rw [unhide EL1]; exact (unhide RO6).below JZ) (unhide T1) ((unhide RB).below JZ) (by rw [unhide EL1]; exact hk100)
              rw [unhide EL1] at CY
              unfold busV at CY
              have VDZ := hide ((unhide VD).below JZ); have SDZ := hide ((unhide SDx).below JZ)
              have KZ := hide ((unhide K6).trans (JZ.mono (unhide K6).size))
              clear CX kx s0 s1 s2 mc mb JZ
              rw [egb] at *
              go_wp2_with fail
              refine CY.mono ?_
              rintro e x5 ⟨rfl, k5⟩
              have CZ := stayedB_any rd cd (some bx) (220) bc (gF dt) x5 (by omega) ((unhide VDZ).below k5) ((unhide SDZ).below k5).rd
              have KZ := hide ((unhide KZ).trans (k5.mono (unhide KZ).size))
              clear CY k5 v0 v1 v2 u0 u1 u2
              go_wp2_with fail
              refine CZ.mono ?_
              rintro e x6 ⟨rfl, k6⟩
              have KZ := hide ((unhide KZ).trans (k6.mono (unhide KZ).size))
              clear CZ k6
              go_wp2_with fail
              go_ret
              exact ⟨rfl, unhide KZ⟩
  · have hl2' : ¬ (220 : Int) < (ds.length : Nat) := by omega
    have et : dt = ds := by rw [unhide EDT]; exact List.take_of_length_le (by omega)
    obtain rfl : m2 = ds.length := by rw [unhide EM2, et]
    have SDT := hide (show Sr w3 bo ds.length bc (bF (gF dt)) by rw [et]; exact unhide SD3)
    have hmb : ds.length ≤ bc := hbc
    clear et
    go_wp2_with fail
    refine C1.mono ?_
    rintro e w4 ⟨r, cq, M, rfl, tM, ro, k4⟩
    obtain ⟨w5, e5, m5, k5, s5⟩ := bu_alloc w4 0 (kk : Nat) (.slice (some ⟨r, 0, none⟩) kk cq)
    have j5 : Below w3.heap.size w3 w5 := k4.trans (k5.mono k4.size)
    have CD := roomyB_any (bo) (ds.length) bc (gF dt) w5 (by omega) ((unhide SDT).below j5)
    have E5 := hide e5; have MB := hide ((unhide M3).below j5); have MC := hide m5; have RO := hide (ro.below k5); have RB := hide ((unhide R3).below j5); have SDx := hide ((unhide SDT).below j5); have TM := hide tM; have K5 := hide ((unhide K3).trans (j5.mono (unhide K3).size))
    clear C1 tM ro k4 e5 m5 k5 s5 j5 x0 x1 x2
    go_wp2_with fail
    rw [← unhide E5]
    refine CD.mono ?_
    rintro e w6 ⟨rd, cd, rfl, hrd, vd, k6⟩
    have mc6 := (unhide MC).below k6
    have y0 := mc6.cell0; have y1 := mc6.cell1; have y2 := mc6.cell2
    have hfit := vd.fit
    have bnow : b.now = 0 := by rw [unhide EB]
    have bser : b.ser = (kk : Nat) := by rw [unhide EB]
    have bq : b.q = ldQ D kk := by rw [unhide EB]
    have tMb : These M b.q := by rw [bq]; exact unhide TM
    have hMl : M.length = kk := (unhide RO).1
    have hml : dt.length = ds.length := (unhide EM2).symm
    have sd : Sr w6 (some ⟨rd, 0, none⟩) dt.length cd (bF (gF dt)) := by
      rw [hml]
      exact Or.inr ⟨_, rfl, fun i hi => by
        rw [Addr.add_lit, Nat.zero_add, vd.cell (by omega)]
        unfold bF
        rw [rbF_low hi]⟩
    have ro6 := (unhide RO).below k6
    have CS := hS b (some ⟨r, 0, none⟩) cq M 0 1 5 (some ⟨rd, 0, none⟩) cd dt w6 (unhide HB) tMb ro6.rd (by unfold R64; omega) (by unfold R64; omega) (by unfold R64; omega) sd (by omega) (unhide HDT) (by omega)
    obtain ⟨Y1, eY1⟩ : ∃ Y1, Y1 = sendS b 0 1 dt 5 := ⟨_, rfl⟩
    have OK1 := hide (show BsOK Y1 by rw [eY1]; exact sendS_ok (unhide HB) (unhide HDT))
    rw [bnow, bser, hMl, hml, ← eY1] at CS
    unfold busV at CS
    obtain ⟨Y2, eY2⟩ : ∃ Y2, Y2 = stepS b (Tt : Nat) := ⟨_, rfl⟩
    obtain ⟨Z2, eZ2⟩ : ∃ Z2, Z2 = comeS b (Tt : Nat) := ⟨_, rfl⟩
    obtain ⟨E2, eE2⟩ : ∃ E2 : Nat, E2 = stepE 0 (Tt : Nat) := ⟨_, rfl⟩
    obtain ⟨Y3, eY3⟩ : ∃ Y3, Y3 = loseS b (Ss : Nat) := ⟨_, rfl⟩
    obtain ⟨E3, eE3⟩ : ∃ E3 : Nat, E3 = loseE b (Ss : Nat) := ⟨_, rfl⟩
    obtain ⟨Y4, eY4⟩ : ∃ Y4, Y4 = turnS b (Ss : Nat) 0 1 := ⟨_, rfl⟩
    obtain ⟨E4, eE4⟩ : ∃ E4 : Nat, E4 = turnE b (Ss : Nat) 0 1 := ⟨_, rfl⟩
    have OK2 := hide (show BsOK Y2 by rw [eY2]; exact stepS_ok (unhide HB) (by unfold R64; omega))
    have OK2P := hide (show (∀ p, p ∈ Z2 → PcOK p) ∧ Z2.length ≤ 2513169434843 by rw [eZ2]; exact comeS_ok (unhide HB))
    have OK3 := hide (show BsOK Y3 by rw [eY3]; exact loseS_ok (unhide HB))
    have OK4 := hide (show BsOK Y4 by rw [eY4]; exact turnS_ok (unhide HB))
    have CSTEP := hide (fun (w4 : World) (r1 : BRd w4 (some ⟨r, 0, none⟩) cq M) => (by
      have C := hP b (some ⟨r, 0, none⟩) cq M (Tt : Nat) w4 (unhide HB) tMb r1 (by unfold R64; omega)
      rw [← eY2, ← eZ2, bnow, bser, hMl, ← eE2] at C
      exact C : Calls Try.prog 13 #[busV 0 (kk : Nat) (.slice (some ⟨r, 0, none⟩) kk cq), .int .i64 (Tt : Nat)] w4 _))
    have CLOSE := hide (fun (w4 : World) (r1 : BRd w4 (some ⟨r, 0, none⟩) cq M) => (by
      have C := hL b (some ⟨r, 0, none⟩) cq M (Ss : Nat) w4 (unhide HB) tMb r1 (by unfold R64; omega)
      rw [← eY3, bnow, bser, hMl, ← eE3] at C
      exact C : Calls Try.prog 9 #[busV 0 (kk : Nat) (.slice (some ⟨r, 0, none⟩) kk cq), .int .i64 (Ss : Nat)] w4 _))
    have CTURN := hide (fun (w4 : World) (r1 : BRd w4 (some ⟨r, 0, none⟩) cq M) => (by
      have C := hU b (some ⟨r, 0, none⟩) cq M (Ss : Nat) 0 1 w4 (unhide HB) tMb r1 (by unfold R64; omega) (by unfold R64; omega) (by unfold R64; omega)
      rw [← eY4, bnow, bser, hMl, ← eE4] at C
      exact C : Calls Try.prog 8 #[busV 0 (kk : Nat) (.slice (some ⟨r, 0, none⟩) kk cq), .int .i64 (Ss : Nat), .int .i64 0, .int .i64 1] w4 _))
    obtain ⟨gc, egc⟩ : ∃ gc, gc = w4.heap.size := ⟨_, rfl⟩
    rw [← egc] at MC
    have MB := hide ((unhide MB).below k6); have MC := hide ((unhide MC).below k6); have RO := hide ro6; have RB := hide ((unhide RB).below k6); have SDx := hide ((unhide SDx).below k6); have VD := hide vd; have K6 := hide ((unhide K5).trans (k6.mono (unhide K5).size))
    clear CD hrd vd k6 mc6 bnow bser bq tMb sd ro6 eY1 eY2 eZ2 eE2 eY3 eE3 eY4 eE4 hfit hml
    go_wp2_with fail
    refine CS.mono ?_
    rintro e w7 ⟨a7, c7, L7, rfl, t7, n7, k7⟩
    obtain ⟨W, eW, mW, kW, sW⟩ := bu_alloc w7 Y1.now Y1.ser (.slice a7 L7.length c7)
    have j6 : Below w6.heap.size w6 W := k7.trans (kW.mono k7.size)
    have SX1 := hide ((SmX.of n7 (fun d hd => ((unhide OK1).2.2.1 d.p (t7.mem hd)).2.2.2.2.2)).below kW)
    have LN1 : L7.length ≤ 2513169434843 := by rw [t7.len]; exact (unhide OK1).2.2.2
    obtain ⟨g1, eg1⟩ : ∃ g1, g1 = w7.heap.size := ⟨_, rfl⟩
    have M1 := hide mW
    rw [← eg1] at M1
    have l0 : g1 < W.heap.size := (unhide M1).lt
    have MC6 := MC; have RO6 := RO
    have MC := hide ((unhide MC).below j6); have RO := hide ((unhide RO).below j6); have J6 := hide j6; have EW := hide eW
    have Zg1 := hide (show w7.heap.size ≤ g1 ∧ W.heap.size = w7.heap.size + 1 ∧ w6.heap.size ≤ w7.heap.size from ⟨by omega, sW, k7.size⟩)
    clear CS t7 n7 k7 eW mW kW sW j6 y0 y1 y2
    go_wp2_with fail
    rw [← unhide EW, ← egc, ← eg1]
    clear eg1 egc EW
    refine wp_leaves (fun a0 a' w' => ∃ (a6 : Option Addr) (c6 : Nat) (L6 : List Lp) (pa : Option Addr) (pc : Nat) (PL : List Lp) (g8 Ux Tx : Nat), SmX w' Ux Tx (.slice a6 L6.length c6) L6.length ∧ SmX w' Ux Tx (.slice pa PL.length pc) PL.length ∧ L6.length ≤ 2513169434843 ∧ PL.length ≤ 2513169434843 ∧ BuAt w' g8 Y2.now Y2.ser (.slice a6 L6.length c6) ∧ Below W.heap.size W w' ∧ W.heap.size ≤ g8 ∧ (g8 < Ux ∨ Tx ≤ g8) ∧ W.heap.size ≤ Ux ∧ Ux ≤ Tx ∧ Tx ≤ w'.heap.size ∧ a' = (((((((((((a0.put (some 51) (busV 0 (kk : Nat) (.slice (some ⟨r, 0, none⟩) kk cq))).put (some 52) (.int .i64 t)).put (some 15) (.pointer (some ⟨g8, 0, none⟩))).put (some 53) (.int .i64 (Tt : Nat))).put (some 54) (.tuple #[busV Y2.now Y2.ser (.slice a6 L6.length c6), .slice pa PL.length pc, .int .i64 (E2 : Nat)])).put (some 50) (.tuple #[busV Y2.now Y2.ser (.slice a6 L6.length c6), .slice pa PL.length pc, .int .i64 (E2 : Nat)])).put (some 55) (busV Y2.now Y2.ser (.slice a6 L6.length c6))).put (some 56) (.slice pa PL.length pc)).put (some 57) (.int .i64 (E2 : Nat))).put (some 16) (.slice pa PL.length pc)).put (some 17) (.int .i64 (E2 : Nat)))) ?reg9 ?rest9
    case reg9 =>
      intro A eA
      have b11 : A.eval (.tmp 11) = .pointer (some ⟨gc, 0, none⟩) := by rw [eA]; rfl
      have bs : A.eval (.tmp 2) = .int .i64 t := by rw [eA]; rfl
      have hs : 111 ≤ A.tmps.size := by rw [eA]; exact of_decide_eq_true rfl
      clear eA
      have h0 : BuAt W.drew gc 0 (kk : Nat) (.slice (some ⟨r, 0, none⟩) kk cq) := unhide MC
      have hBr : BRd W.drew (some ⟨r, 0, none⟩) cq M := (unhide RO).rd
      have l1 : gc < W.heap.size := (unhide MC).lt
      refine region_I (S := fun W => BuAt W gc 0 (kk : Nat) (.slice (some ⟨r, 0, none⟩) kk cq)) (.rd 0 (.rd 1 (.two 2 8 (.two 3 8 (.rd 4 (.rd 5 (.rd 6 (.rd 7 (.go 8 (.go 9 (.rd 10 (.rd 11 .fin)))))))) (.go 3 (.rd 4 (.rd 5 (.rd 6 (.rd 7 (.go 9 (.rd 10 (.rd 11 .fin))))))))) (.go 2 (.go 3 (.rd 4 (.rd 5 (.rd 6 (.rd 7 (.go 9 (.rd 10 (.rd 11 .fin)))))))))))) [] (by kernel_rfl) (by kernel_rfl) ?_
      refine sI_read (v := (busV 0 (kk : Nat) (.slice (some ⟨r, 0, none⟩) kk cq))) rfl (fun _ _ _ h => absurd h.1 (fun e => nomatch e)) (wanted_rd rfl) h0 (fun wx hx => run_lodU (.tmp 11) rfl b11 hx) ?_
      show SeqI _ _ _ _ _ _ (Act.put _ (some 51) _) _
      refine sI_read (v := (.int .i64 t)) rfl (fun _ _ _ h => absurd h.1 (fun e => nomatch e)) (wanted_rd rfl) h0 (fun wx _ => run_move (.tmp 2) rfl ((ev_other _ _ (by decide)).trans bs) wx) ?_
      show SeqI _ _ _ _ _ _ (Act.put _ (some 52) _) _
      refine sI_two rfl rfl (wanted_rd rfl) (wanted_rd rfl) ?_ ?_
      · intro K hK
        refine wp_call2 _ 7 (.tmp 52) (.const (.int .i64 1200)) _ rfl (ev_same _ _ _ (by simp only [sz_put]; omega)) rfl (enter_spot _ _ _) (spF_any t 1200 (by omega) (by omega) _) ?_
        rw [← unhide ET]
        rintro e wq ⟨rfl, hq⟩
        obtain rfl : W.drew = wq := hq.symm
        refine ⟨_, rfl, ?_⟩
        refine hK _ _ (fun _ => h0) ?_
        clear hK K
        show SeqI _ _ _ _ _ _ (Act.put _ (some 53) _) _
        refine sI_two rfl rfl (wanted_rd rfl) (wanted_rd rfl) ?_ ?_
        · intro K hK
          refine wp_call2 _ 13 (.tmp 51) (.tmp 53) _ rfl ((ev_other _ _ (by decide)).trans ((ev_other _ _ (by decide)).trans (ev_same _ _ _ (by omega)))) (ev_same _ _ _ (by simp only [sz_put]; omega)) (enter_stepM _ _ _) (unhide CSTEP _ hBr) ?_
          rintro e w1 ⟨a6, c6, L6, pa, pc, PL, rfl, t6, n1, tp, pp1, k1⟩
          have h1 := h0.below k1
          have j1 : Below W.drew.heap.size W.drew w1 := (Below.refl W.drew.heap.size W.drew).trans (k1.mono (Below.refl W.drew.heap.size W.drew).size)
          refine ⟨_, rfl, ?_⟩
          refine hK _ _ (fun _ => h1) ?_
          clear hK K
          show SeqI _ _ _ _ _ _ (Act.put _ (some 54) _) _
          refine sI_read (v := (.tuple #[busV Y2.now Y2.ser (.slice a6 L6.length c6), .slice pa PL.length pc, .int .i64 (E2 : Nat)])) rfl (fun _ _ _ h => absurd h.1 (fun e => nomatch e)) (wanted_rd rfl) h1 (fun wx _ => run_move (.tmp 54) rfl (ev_same _ _ _ (by simp only [sz_put]; omega)) wx) ?_
          show SeqI _ _ _ _ _ _ (Act.put _ (some 50) _) _
          refine sI_read (v := (busV Y2.now Y2.ser (.slice a6 L6.length c6))) rfl (fun _ _ _ h => absurd h.1 (fun e => nomatch e)) (wanted_rd rfl) h1 (fun wx _ => run_get3 (.tmp 50) 0 rfl (ev_same _ _ _ (by simp only [sz_put]; omega)) rfl wx) ?_
          show SeqI _ _ _ _ _ _ (Act.put _ (some 55) _) _
          refine sI_read (v := (.slice pa PL.length pc)) rfl (fun _ _ _ h => absurd h.1 (fun e => nomatch e)) (wanted_rd rfl) h1 (fun wx _ => run_get3 (.tmp 50) 1 rfl ((ev_other _ _ (by decide)).trans (ev_same _ _ _ (by simp only [sz_put]; omega))) rfl wx) ?_
          show SeqI _ _ _ _ _ _ (Act.put _ (some 56) _) _
          refine sI_read (v := (.int .i64 (E2 : Nat))) rfl (fun _ _ _ h => absurd h.1 (fun e => nomatch e)) (wanted_rd rfl) h1 (fun wx _ => run_get3 (.tmp 50) 2 rfl ((ev_other _ _ (by decide)).trans ((ev_other _ _ (by decide)).trans (ev_same _ _ _ (by simp only [sz_put]; omega)))) rfl wx) ?_
          show SeqI _ _ _ _ _ _ (Act.put _ (some 57) _) _
          refine sI_do rfl (wanted_rd rfl) (fun K hK => ?_)
          refine wp_allocU _ rfl ?_
          intro w2 m2 k2 z2
          have h2 := h1.below k2
          have j2 : Below W.drew.heap.size W.drew w2 := j1.trans (k2.mono j1.size)
          have hg : W.heap.size ≤ w1.heap.size := j1.size
          have lb := k2
          refine hK _ _ (fun _ => h2) ?_
          clear hK K
          show SeqI _ _ _ _ _ _ (Act.put _ (some 15) _) _
          refine sI_do rfl (wanted_rd rfl) (fun K hK => ?_)
          refine wp_storeU _ (.tmp 15) (.tmp 55) rfl (ev_same _ _ _ (by simp only [sz_put]; omega)) ((ev_other _ _ (by decide)).trans ((ev_other _ _ (by decide)).trans ((ev_other _ _ (by decide)).trans (ev_same _ _ _ (by simp only [sz_put]; omega))))) m2 rfl ?_
          intro w3 m3 k3 z3
          have h3 := h2.kept k3 (by omega)
          refine hK _ _ (fun _ => h3) ?_
          clear hK K
          refine sI_read (v := (.slice pa PL.length pc)) rfl (fun _ _ _ h => absurd h.1 (fun e => nomatch e)) (wanted_rd rfl) h3 (fun wx _ => run_assign (.tmp 56) rfl ((ev_other _ _ (by decide)).trans ((ev_other _ _ (by decide)).trans (ev_same _ _ _ (by simp only [sz_put]; omega)))) wx) ?_
          show SeqI _ _ _ _ _ _ (Act.put _ (some 16) _) _
          refine sI_read (v := (.int .i64 (E2 : Nat))) rfl (fun _ _ _ h => absurd h.1 (fun e => nomatch e)) (wanted_rd rfl) h3 (fun wx _ => run_assign (.tmp 57) rfl ((ev_other _ _ (by decide)).trans ((ev_other _ _ (by decide)).trans (ev_same _ _ _ (by simp only [sz_put]; omega)))) wx) ?_
          show SeqI _ _ _ _ _ _ (Act.put _ (some 17) _) _
          have jj : Below W.heap.size W w3 := below_of_kept ((below_drew (Below.refl _ _)).trans (show Below W.heap.size W.drew w2 from j2)) k3 hg (show W.heap.size ≤ w2.heap.size from j2.size)
          exact sI_end ⟨rfl, a6, c6, L6, pa, pc, PL, w1.heap.size, W.drew.heap.size, w1.heap.size, (((SmX.of n1 (fun d hd => ((unhide OK2).2.2.1 d.p (t6.mem hd)).2.2.2.2.2)).below lb).kept k3 (Or.inr (Nat.le_refl _))), (((SmX.of pp1 (fun d hd => ((unhide OK2P).1 d.p (tp.mem hd)).2.2.2.2.2)).below lb).kept k3 (Or.inr (Nat.le_refl _))), (by rw [t6.len]; exact (unhide OK2).2.2.2), (by rw [tp.len]; exact (unhide OK2P).2), m3, jj, hg, (Or.inr (Nat.le_refl _)), (show W.heap.size ≤ W.drew.heap.size from (Below.refl W.drew.heap.size W.drew).size), k1.size, Nat.le_trans lb.size k3.size, (by rw [put_swap _ 57 15 _ _ (by decide), put_swap _ 56 15 _ _ (by decide), put_swap _ 55 15 _ _ (by decide), put_swap _ 50 15 _ _ (by decide), put_swap _ 54 15 _ _ (by decide), put_swap _ 53 15 _ _ (by decide)]; first | done | rfl)⟩
        · intro K hK
          refine wp_allocU _ rfl ?_
          intro w1 m1 k1 z1
          have h1 := h0.below k1
          have j1 : Below W.drew.heap.size W.drew w1 := (Below.refl W.drew.heap.size W.drew).trans (k1.mono (Below.refl W.drew.heap.size W.drew).size)
          have hg : W.heap.size ≤ W.drew.heap.size := (Below.refl W.drew.heap.size W.drew).size
          refine hK _ _ (fun _ => h1) ?_
          clear hK K
          show SeqI _ _ _ _ _ _ (Act.put _ (some 15) _) _
          refine sI_do rfl (wanted_rd rfl) (fun K hK => ?_)
          refine wp_call2 _ 13 (.tmp 51) (.tmp 53) _ rfl ((ev_other _ _ (by decide)).trans ((ev_other _ _ (by decide)).trans ((ev_other _ _ (by decide)).trans (ev_same _ _ _ (by omega))))) ((ev_other _ _ (by decide)).trans (ev_same _ _ _ (by simp only [sz_put]; omega))) (enter_stepM _ _ _) (unhide CSTEP _ (hBr.below j1)) ?_
          rintro e w2 ⟨a6, c6, L6, pa, pc, PL, rfl, t6, n2, tp, pp2, k2⟩
          have h2 := h1.below k2
          have j2 : Below W.drew.heap.size W.drew w2 := j1.trans (k2.mono j1.size)
          have m2 := m1.below k2
          refine ⟨_, rfl, ?_⟩
          refine hK _ _ (fun _ => h2) ?_
          clear hK K
          show SeqI _ _ _ _ _ _ (Act.put _ (some 54) _) _
          refine sI_read (v := (.tuple #[busV Y2.now Y2.ser (.slice a6 L6.length c6), .slice pa PL.length pc, .int .i64 (E2 : Nat)])) rfl (fun _ _ _ h => absurd h.1 (fun e => nomatch e)) (wanted_rd rfl) h2 (fun wx _ => run_move (.tmp 54) rfl (ev_same _ _ _ (by simp only [sz_put]; omega)) wx) ?_
          show SeqI _ _ _ _ _ _ (Act.put _ (some 50) _) _
          refine sI_read (v := (busV Y2.now Y2.ser (.slice a6 L6.length c6))) rfl (fun _ _ _ h => absurd h.1 (fun e => nomatch e)) (wanted_rd rfl) h2 (fun wx _ => run_get3 (.tmp 50) 0 rfl (ev_same _ _ _ (by simp only [sz_put]; omega)) rfl wx) ?_
          show SeqI _ _ _ _ _ _ (Act.put _ (some 55) _) _
          refine sI_read (v := (.slice pa PL.length pc)) rfl (fun _ _ _ h => absurd h.1 (fun e => nomatch e)) (wanted_rd rfl) h2 (fun wx _ => run_get3 (.tmp 50) 1 rfl ((ev_other _ _ (by decide)).trans (ev_same _ _ _ (by simp only [sz_put]; omega))) rfl wx) ?_
          show SeqI _ _ _ _ _ _ (Act.put _ (some 56) _) _
          refine sI_read (v := (.int .i64 (E2 : Nat))) rfl (fun _ _ _ h => absurd h.1 (fun e => nomatch e)) (wanted_rd rfl) h2 (fun wx _ => run_get3 (.tmp 50) 2 rfl ((ev_other _ _ (by decide)).trans ((ev_other _ _ (by decide)).trans (ev_same _ _ _ (by simp only [sz_put]; omega)))) rfl wx) ?_
          show SeqI _ _ _ _ _ _ (Act.put _ (some 57) _) _
          refine sI_do rfl (wanted_rd rfl) (fun K hK => ?_)
          refine wp_storeU _ (.tmp 15) (.tmp 55) rfl ((ev_other _ _ (by decide)).trans ((ev_other _ _ (by decide)).trans ((ev_other _ _ (by decide)).trans ((ev_other _ _ (by decide)).trans ((ev_other _ _ (by decide)).trans (ev_same _ _ _ (by simp only [sz_put]; omega))))))) ((ev_other _ _ (by decide)).trans ((ev_other _ _ (by decide)).trans (ev_same _ _ _ (by simp only [sz_put]; omega)))) m2 rfl ?_
          intro w3 m3 k3 z3
          have h3 := h2.kept k3 (by omega)
          refine hK _ _ (fun _ => h3) ?_
          clear hK K
          refine sI_read (v := (.slice pa PL.length pc)) rfl (fun _ _ _ h => absurd h.1 (fun e => nomatch e)) (wanted_rd rfl) h3 (fun wx _ => run_assign (.tmp 56) rfl ((ev_other _ _ (by decide)).trans (ev_same _ _ _ (by simp only [sz_put]; omega))) wx) ?_
          show SeqI _ _ _ _ _ _ (Act.put _ (some 16) _) _
          refine sI_read (v := (.int .i64 (E2 : Nat))) rfl (fun _ _ _ h => absurd h.1 (fun e => nomatch e)) (wanted_rd rfl) h3 (fun wx _ => run_assign (.tmp 57) rfl ((ev_other _ _ (by decide)).trans (ev_same _ _ _ (by simp only [sz_put]; omega))) wx) ?_
          show SeqI _ _ _ _ _ _ (Act.put _ (some 17) _) _
          have jj : Below W.heap.size W w3 := below_of_kept ((below_drew (Below.refl _ _)).trans (show Below W.heap.size W.drew w2 from j2)) k3 hg (show W.heap.size ≤ w2.heap.size from j2.size)
          exact sI_end ⟨rfl, a6, c6, L6, pa, pc, PL, W.drew.heap.size, w1.heap.size, w2.heap.size, ((SmX.of n2 (fun d hd => ((unhide OK2).2.2.1 d.p (t6.mem hd)).2.2.2.2.2)).kept k3 (Or.inl (show W.drew.heap.size < w1.heap.size from m1.lt))), ((SmX.of pp2 (fun d hd => ((unhide OK2P).1 d.p (tp.mem hd)).2.2.2.2.2)).kept k3 (Or.inl (show W.drew.heap.size < w1.heap.size from m1.lt))), (by rw [t6.len]; exact (unhide OK2).2.2.2), (by rw [tp.len]; exact (unhide OK2P).2), m3, jj, hg, (Or.inl (show W.drew.heap.size < w1.heap.size from m1.lt)), (show W.heap.size ≤ w1.heap.size from j1.size), k2.size, k3.size, (by rw [put_swap _ 53 15 _ _ (by decide)]; first | done | rfl)⟩
      · intro K hK
        refine wp_allocU _ rfl ?_
        intro w1 m1 k1 z1
        have h1 := h0.below k1
        have j1 : Below W.drew.heap.size W.drew w1 := (Below.refl W.drew.heap.size W.drew).trans (k1.mono (Below.refl W.drew.heap.size W.drew).size)
        have hg : W.heap.size ≤ W.drew.heap.size := (Below.refl W.drew.heap.size W.drew).size
        refine hK _ _ (fun _ => h1) ?_
        clear hK K
        show SeqI _ _ _ _ _ _ (Act.put _ (some 15) _) _
        refine sI_do rfl (wanted_rd rfl) (fun K hK => ?_)
        refine wp_call2 _ 7 (.tmp 52) (.const (.int .i64 1200)) _ rfl ((ev_other _ _ (by decide)).trans (ev_same _ _ _ (by simp only [sz_put]; omega))) rfl (enter_spot _ _ _) (spF_any t 1200 (by omega) (by omega) _) ?_
        rw [← unhide ET]
        rintro e wq ⟨rfl, hq⟩
        obtain rfl : w1 = wq := hq.symm
        refine ⟨_, rfl, ?_⟩
        refine hK _ _ (fun _ => h1) ?_
        clear hK K
        show SeqI _ _ _ _ _ _ (Act.put _ (some 53) _) _
        refine sI_do rfl (wanted_rd rfl) (fun K hK => ?_)
        refine wp_call2 _ 13 (.tmp 51) (.tmp 53) _ rfl ((ev_other _ _ (by decide)).trans ((ev_other _ _ (by decide)).trans ((ev_other _ _ (by decide)).trans (ev_same _ _ _ (by omega))))) (ev_same _ _ _ (by simp only [sz_put]; omega)) (enter_stepM _ _ _) (unhide CSTEP _ (hBr.below j1)) ?_
        rintro e w2 ⟨a6, c6, L6, pa, pc, PL, rfl, t6, n2, tp, pp2, k2⟩
        have h2 := h1.below k2
        have j2 : Below W.drew.heap.size W.drew w2 := j1.trans (k2.mono j1.size)
        have m2 := m1.below k2
        refine ⟨_, rfl, ?_⟩
        refine hK _ _ (fun _ => h2) ?_
        clear hK K
        show SeqI _ _ _ _ _ _ (Act.put _ (some 54) _) _
        refine sI_read (v := (.tuple #[busV Y2.now Y2.ser (.slice a6 L6.length c6), .slice pa PL.length pc, .int .i64 (E2 : Nat)])) rfl (fun _ _ _ h => absurd h.1 (fun e => nomatch e)) (wanted_rd rfl) h2 (fun wx _ => run_move (.tmp 54) rfl (ev_same _ _ _ (by simp only [sz_put]; omega)) wx) ?_
        show SeqI _ _ _ _ _ _ (Act.put _ (some 50) _) _
        refine sI_read (v := (busV Y2.now Y2.ser (.slice a6 L6.length c6))) rfl (fun _ _ _ h => absurd h.1 (fun e => nomatch e)) (wanted_rd rfl) h2 (fun wx _ => run_get3 (.tmp 50) 0 rfl (ev_same _ _ _ (by simp only [sz_put]; omega)) rfl wx) ?_
        show SeqI _ _ _ _ _ _ (Act.put _ (some 55) _) _
        refine sI_read (v := (.slice pa PL.length pc)) rfl (fun _ _ _ h => absurd h.1 (fun e => nomatch e)) (wanted_rd rfl) h2 (fun wx _ => run_get3 (.tmp 50) 1 rfl ((ev_other _ _ (by decide)).trans (ev_same _ _ _ (by simp only [sz_put]; omega))) rfl wx) ?_
        show SeqI _ _ _ _ _ _ (Act.put _ (some 56) _) _
        refine sI_read (v := (.int .i64 (E2 : Nat))) rfl (fun _ _ _ h => absurd h.1 (fun e => nomatch e)) (wanted_rd rfl) h2 (fun wx _ => run_get3 (.tmp 50) 2 rfl ((ev_other _ _ (by decide)).trans ((ev_other _ _ (by decide)).trans (ev_same _ _ _ (by simp only [sz_put]; omega)))) rfl wx) ?_
        show SeqI _ _ _ _ _ _ (Act.put _ (some 57) _) _
        refine sI_do rfl (wanted_rd rfl) (fun K hK => ?_)
        refine wp_storeU _ (.tmp 15) (.tmp 55) rfl ((ev_other _ _ (by decide)).trans ((ev_other _ _ (by decide)).trans ((ev_other _ _ (by decide)).trans ((ev_other _ _ (by decide)).trans ((ev_other _ _ (by decide)).trans ((ev_other _ _ (by decide)).trans (ev_same _ _ _ (by simp only [sz_put]; omega)))))))) ((ev_other _ _ (by decide)).trans ((ev_other _ _ (by decide)).trans (ev_same _ _ _ (by simp only [sz_put]; omega)))) m2 rfl ?_
        intro w3 m3 k3 z3
        have h3 := h2.kept k3 (by omega)
        refine hK _ _ (fun _ => h3) ?_
        clear hK K
        refine sI_read (v := (.slice pa PL.length pc)) rfl (fun _ _ _ h => absurd h.1 (fun e => nomatch e)) (wanted_rd rfl) h3 (fun wx _ => run_assign (.tmp 56) rfl ((ev_other _ _ (by decide)).trans (ev_same _ _ _ (by simp only [sz_put]; omega))) wx) ?_
        show SeqI _ _ _ _ _ _ (Act.put _ (some 16) _) _
        refine sI_read (v := (.int .i64 (E2 : Nat))) rfl (fun _ _ _ h => absurd h.1 (fun e => nomatch e)) (wanted_rd rfl) h3 (fun wx _ => run_assign (.tmp 57) rfl ((ev_other _ _ (by decide)).trans (ev_same _ _ _ (by simp only [sz_put]; omega))) wx) ?_
        show SeqI _ _ _ _ _ _ (Act.put _ (some 17) _) _
        have jj : Below W.heap.size W w3 := below_of_kept ((below_drew (Below.refl _ _)).trans (show Below W.heap.size W.drew w2 from j2)) k3 hg (show W.heap.size ≤ w2.heap.size from j2.size)
        exact sI_end ⟨rfl, a6, c6, L6, pa, pc, PL, W.drew.heap.size, w1.heap.size, w2.heap.size, ((SmX.of n2 (fun d hd => ((unhide OK2).2.2.1 d.p (t6.mem hd)).2.2.2.2.2)).kept k3 (Or.inl (show W.drew.heap.size < w1.heap.size from m1.lt))), ((SmX.of pp2 (fun d hd => ((unhide OK2P).1 d.p (tp.mem hd)).2.2.2.2.2)).kept k3 (Or.inl (show W.drew.heap.size < w1.heap.size from m1.lt))), (by rw [t6.len]; exact (unhide OK2).2.2.2), (by rw [tp.len]; exact (unhide OK2P).2), m3, jj, hg, (Or.inl (show W.drew.heap.size < w1.heap.size from m1.lt)), (show W.heap.size ≤ w1.heap.size from j1.size), k2.size, k3.size, rfl⟩
    case rest9 =>
      rintro a' Wb ⟨a8, c8, L8, pa, pc, PL, g2, U2, T2, sx2, sp2, ln2, lp2, mu2, j2, hg2, hd2, hU2, hT2, hTb, rfl⟩
      have MC := hide ((unhide MC).below j2); have RO := hide ((unhide RO).below j2); have M1 := hide ((unhide M1).below j2); have SX1 := hide ((unhide SX1).below j2); have J2 := hide j2
      have M2b := hide mu2; have SX2 := hide sx2; have SP2 := hide sp2
      have J6 := hide ((unhide J6).trans (j2.mono (unhide J6).size))
      have l2 : g2 < Wb.heap.size := mu2.lt
      clear sx2 sp2 mu2 j2
      go_frame
      go_wp2_with fail
      refine wp_leaves (fun a0 a' w' => ∃ (a6 : Option Addr) (c6 : Nat) (L6 : List Lp) (g8 Ux Tx : Nat), SmX w' Ux Tx (.slice a6 L6.length c6) L6.length ∧ L6.length ≤ 2513169434843 ∧ BuAt w' g8 Y3.now Y3.ser (.slice a6 L6.length c6) ∧ Below Wb.heap.size Wb w' ∧ Wb.heap.size ≤ g8 ∧ (g8 < Ux ∨ Tx ≤ g8) ∧ Wb.heap.size ≤ Ux ∧ Ux ≤ Tx ∧ Tx ≤ w'.heap.size ∧ a' = (((((((((a0.put (some 59) (busV 0 (kk : Nat) (.slice (some ⟨r, 0, none⟩) kk cq))).put (some 60) (.int .i64 ser)).put (some 18) (.pointer (some ⟨g8, 0, none⟩))).put (some 61) (.int .i64 (Ss : Nat))).put (some 62) (.tuple #[busV Y3.now Y3.ser (.slice a6 L6.length c6), .int .i64 (E3 : Nat)])).put (some 58) (.tuple #[busV Y3.now Y3.ser (.slice a6 L6.length c6), .int .i64 (E3 : Nat)])).put (some 63) (busV Y3.now Y3.ser (.slice a6 L6.length c6))).put (some 64) (.int .i64 (E3 : Nat))).put (some 19) (.int .i64 (E3 : Nat)))) ?reg10 ?rest10
      case reg10 =>
        intro A eA
        have b11 : A.eval (.tmp 11) = .pointer (some ⟨gc, 0, none⟩) := by rw [eA]; rfl
        have bs : A.eval (.tmp 3) = .int .i64 ser := by rw [eA]; rfl
        have hs : 111 ≤ A.tmps.size := by rw [eA]; exact of_decide_eq_true rfl
        clear eA
        have h0 : BuAt Wb.drew gc 0 (kk : Nat) (.slice (some ⟨r, 0, none⟩) kk cq) := unhide MC
        have hBr : BRd Wb.drew (some ⟨r, 0, none⟩) cq M := (unhide RO).rd
        have l1 : gc < Wb.heap.size := (unhide MC).lt
        refine region_I (S := fun W => BuAt W gc 0 (kk : Nat) (.slice (some ⟨r, 0, none⟩) kk cq)) (.rd 0 (.rd 1 (.two 2 7 (.two 3 7 (.rd 4 (.rd 5 (.rd 6 (.go 7 (.go 8 (.rd 9 .fin)))))) (.go 3 (.rd 4 (.rd 5 (.rd 6 (.go 8 (.rd 9 .fin))))))) (.go 2 (.go 3 (.rd 4 (.rd 5 (.rd 6 (.go 8 (.rd 9 .fin)))))))))) [] (by kernel_rfl) (by kernel_rfl) ?_
        refine sI_read (v := (busV 0 (kk : Nat) (.slice (some ⟨r, 0, none⟩) kk cq))) rfl (fun _ _ _ h => absurd h.1 (fun e => nomatch e)) (wanted_rd rfl) h0 (fun wx hx => run_lodU (.tmp 11) rfl b11 hx) ?_
        show SeqI _ _ _ _ _ _ (Act.put _ (some 59) _) _
        refine sI_read (v := (.int .i64 ser)) rfl (fun _ _ _ h => absurd h.1 (fun e => nomatch e)) (wanted_rd rfl) h0 (fun wx _ => run_move (.tmp 3) rfl ((ev_other _ _ (by decide)).trans bs) wx) ?_
        show SeqI _ _ _ _ _ _ (Act.put _ (some 60) _) _
        refine sI_two rfl rfl (wanted_rd rfl) (wanted_rd rfl) ?_ ?_
        · intro K hK
          refine wp_call2 _ 7 (.tmp 60) (.const (.int .i64 100)) _ rfl (ev_same _ _ _ (by simp only [sz_put]; omega)) rfl (enter_spot _ _ _) (spF_any ser 100 (by omega) (by omega) _) ?_
          rw [← unhide ES]
          rintro e wq ⟨rfl, hq⟩
          obtain rfl : Wb.drew = wq := hq.symm
          refine ⟨_, rfl, ?_⟩
          refine hK _ _ (fun _ => h0) ?_
          clear hK K
          show SeqI _ _ _ _ _ _ (Act.put _ (some 61) _) _
          refine sI_two rfl rfl (wanted_rd rfl) (wanted_rd rfl) ?_ ?_
          · intro K hK
            refine wp_call2 _ 9 (.tmp 59) (.tmp 61) _ rfl ((ev_other _ _ (by decide)).trans ((ev_other _ _ (by decide)).trans (ev_same _ _ _ (by omega)))) (ev_same _ _ _ (by simp only [sz_put]; omega)) (enter_loseM _ _ _) (unhide CLOSE _ hBr) ?_
            rintro e w1 ⟨a6, c6, L6, rfl, t6, n1, k1⟩
            have h1 := h0.below k1
            have j1 : Below Wb.drew.heap.size Wb.drew w1 := (Below.refl Wb.drew.heap.size Wb.drew).trans (k1.mono (Below.refl Wb.drew.heap.size Wb.drew).size)
            refine ⟨_, rfl, ?_⟩
            refine hK _ _ (fun _ => h1) ?_
            clear hK K
            show SeqI _ _ _ _ _ _ (Act.put _ (some 62) _) _
            refine sI_read (v := (.tuple #[busV Y3.now Y3.ser (.slice a6 L6.length c6), .int .i64 (E3 : Nat)])) rfl (fun _ _ _ h => absurd h.1 (fun e => nomatch e)) (wanted_rd rfl) h1 (fun wx _ => run_move (.tmp 62) rfl (ev_same _ _ _ (by simp only [sz_put]; omega)) wx) ?_
            show SeqI _ _ _ _ _ _ (Act.put _ (some 58) _) _
            refine sI_read (v := (busV Y3.now Y3.ser (.slice a6 L6.length c6))) rfl (fun _ _ _ h => absurd h.1 (fun e => nomatch e)) (wanted_rd rfl) h1 (fun wx _ => run_get2 (.tmp 58) 0 rfl (ev_same _ _ _ (by simp only [sz_put]; omega)) rfl wx) ?_
            show SeqI _ _ _ _ _ _ (Act.put _ (some 63) _) _
            refine sI_read (v := (.int .i64 (E3 : Nat))) rfl (fun _ _ _ h => absurd h.1 (fun e => nomatch e)) (wanted_rd rfl) h1 (fun wx _ => run_get2 (.tmp 58) 1 rfl ((ev_other _ _ (by decide)).trans (ev_same _ _ _ (by simp only [sz_put]; omega))) rfl wx) ?_
            show SeqI _ _ _ _ _ _ (Act.put _ (some 64) _) _
            refine sI_do rfl (wanted_rd rfl) (fun K hK => ?_)
            refine wp_allocU _ rfl ?_
            intro w2 m2 k2 z2
            have h2 := h1.below k2
            have j2 : Below Wb.drew.heap.size Wb.drew w2 := j1.trans (k2.mono j1.size)
            have hg : Wb.heap.size ≤ w1.heap.size := j1.size
            have lb := k2
            refine hK _ _ (fun _ => h2) ?_
            clear hK K
            show SeqI _ _ _ _ _ _ (Act.put _ (some 18) _) _
            refine sI_do rfl (wanted_rd rfl) (fun K hK => ?_)
            refine wp_storeU _ (.tmp 18) (.tmp 63) rfl (ev_same _ _ _ (by simp only [sz_put]; omega)) ((ev_other _ _ (by decide)).trans ((ev_other _ _ (by decide)).trans (ev_same _ _ _ (by simp only [sz_put]; omega)))) m2 rfl ?_
            intro w3 m3 k3 z3
            have h3 := h2.kept k3 (by omega)
            refine hK _ _ (fun _ => h3) ?_
            clear hK K
            refine sI_read (v := (.int .i64 (E3 : Nat))) rfl (fun _ _ _ h => absurd h.1 (fun e => nomatch e)) (wanted_rd rfl) h3 (fun wx _ => run_assign (.tmp 64) rfl ((ev_other _ _ (by decide)).trans (ev_same _ _ _ (by simp only [sz_put]; omega))) wx) ?_
            show SeqI _ _ _ _ _ _ (Act.put _ (some 19) _) _
            have jj : Below Wb.heap.size Wb w3 := below_of_kept ((below_drew (Below.refl _ _)).trans (show Below Wb.heap.size Wb.drew w2 from j2)) k3 hg (show Wb.heap.size ≤ w2.heap.size from j2.size)
            exact sI_end ⟨rfl, a6, c6, L6, w1.heap.size, Wb.drew.heap.size, w1.heap.size, (((SmX.of n1 (fun d hd => ((unhide OK3).2.2.1 d.p (t6.mem hd)).2.2.2.2.2)).below lb).kept k3 (Or.inr (Nat.le_refl _))), (by rw [t6.len]; exact (unhide OK3).2.2.2), m3, jj, hg, (Or.inr (Nat.le_refl _)), (show Wb.heap.size ≤ Wb.drew.heap.size from (Below.refl Wb.drew.heap.size Wb.drew).size), k1.size, Nat.le_trans lb.size k3.size, (by rw [put_swap _ 64 18 _ _ (by decide), put_swap _ 63 18 _ _ (by decide), put_swap _ 58 18 _ _ (by decide), put_swap _ 62 18 _ _ (by decide), put_swap _ 61 18 _ _ (by decide)]; first | done | rfl)⟩
          · intro K hK
            refine wp_allocU _ rfl ?_
            intro w1 m1 k1 z1
            have h1 := h0.below k1
            have j1 : Below Wb.drew.heap.size Wb.drew w1 := (Below.refl Wb.drew.heap.size Wb.drew).trans (k1.mono (Below.refl Wb.drew.heap.size Wb.drew).size)
            have hg : Wb.heap.size ≤ Wb.drew.heap.size := (Below.refl Wb.drew.heap.size Wb.drew).size
            refine hK _ _ (fun _ => h1) ?_
            clear hK K
            show SeqI _ _ _ _ _ _ (Act.put _ (some 18) _) _
            refine sI_do rfl (wanted_rd rfl) (fun K hK => ?_)
            refine wp_call2 _ 9 (.tmp 59) (.tmp 61) _ rfl ((ev_other _ _ (by decide)).trans ((ev_other _ _ (by decide)).trans ((ev_other _ _ (by decide)).trans (ev_same _ _ _ (by omega))))) ((ev_other _ _ (by decide)).trans (ev_same _ _ _ (by simp only [sz_put]; omega))) (enter_loseM _ _ _) (unhide CLOSE _ (hBr.below j1)) ?_
            rintro e w2 ⟨a6, c6, L6, rfl, t6, n2, k2⟩
            have h2 := h1.below k2
            have j2 : Below Wb.drew.heap.size Wb.drew w2 := j1.trans (k2.mono j1.size)
            have m2 := m1.below k2
            refine ⟨_, rfl, ?_⟩
            refine hK _ _ (fun _ => h2) ?_
            clear hK K
            show SeqI _ _ _ _ _ _ (Act.put _ (some 62) _) _
            refine sI_read (v := (.tuple #[busV Y3.now Y3.ser (.slice a6 L6.length c6), .int .i64 (E3 : Nat)])) rfl (fun _ _ _ h => absurd h.1 (fun e => nomatch e)) (wanted_rd rfl) h2 (fun wx _ => run_move (.tmp 62) rfl (ev_same _ _ _ (by simp only [sz_put]; omega)) wx) ?_
            show SeqI _ _ _ _ _ _ (Act.put _ (some 58) _) _
            refine sI_read (v := (busV Y3.now Y3.ser (.slice a6 L6.length c6))) rfl (fun _ _ _ h => absurd h.1 (fun e => nomatch e)) (wanted_rd rfl) h2 (fun wx _ => run_get2 (.tmp 58) 0 rfl (ev_same _ _ _ (by simp only [sz_put]; omega)) rfl wx) ?_
            show SeqI _ _ _ _ _ _ (Act.put _ (some 63) _) _
            refine sI_read (v := (.int .i64 (E3 : Nat))) rfl (fun _ _ _ h => absurd h.1 (fun e => nomatch e)) (wanted_rd rfl) h2 (fun wx _ => run_get2 (.tmp 58) 1 rfl ((ev_other _ _ (by decide)).trans (ev_same _ _ _ (by simp only [sz_put]; omega))) rfl wx) ?_
            show SeqI _ _ _ _ _ _ (Act.put _ (some 64) _) _
            refine sI_do rfl (wanted_rd rfl) (fun K hK => ?_)
            refine wp_storeU _ (.tmp 18) (.tmp 63) rfl ((ev_other _ _ (by decide)).trans ((ev_other _ _ (by decide)).trans ((ev_other _ _ (by decide)).trans ((ev_other _ _ (by decide)).trans (ev_same _ _ _ (by simp only [sz_put]; omega)))))) ((ev_other _ _ (by decide)).trans (ev_same _ _ _ (by simp only [sz_put]; omega))) m2 rfl ?_
            intro w3 m3 k3 z3
            have h3 := h2.kept k3 (by omega)
            refine hK _ _ (fun _ => h3) ?_
            clear hK K
            refine sI_read (v := (.int .i64 (E3 : Nat))) rfl (fun _ _ _ h => absurd h.1 (fun e => nomatch e)) (wanted_rd rfl) h3 (fun wx _ => run_assign (.tmp 64) rfl (ev_same _ _ _ (by simp only [sz_put]; omega)) wx) ?_
            show SeqI _ _ _ _ _ _ (Act.put _ (some 19) _) _
            have jj : Below Wb.heap.size Wb w3 := below_of_kept ((below_drew (Below.refl _ _)).trans (show Below Wb.heap.size Wb.drew w2 from j2)) k3 hg (show Wb.heap.size ≤ w2.heap.size from j2.size)
            exact sI_end ⟨rfl, a6, c6, L6, Wb.drew.heap.size, w1.heap.size, w2.heap.size, ((SmX.of n2 (fun d hd => ((unhide OK3).2.2.1 d.p (t6.mem hd)).2.2.2.2.2)).kept k3 (Or.inl (show Wb.drew.heap.size < w1.heap.size from m1.lt))), (by rw [t6.len]; exact (unhide OK3).2.2.2), m3, jj, hg, (Or.inl (show Wb.drew.heap.size < w1.heap.size from m1.lt)), (show Wb.heap.size ≤ w1.heap.size from j1.size), k2.size, k3.size, (by rw [put_swap _ 61 18 _ _ (by decide)]; first | done | rfl)⟩
        · intro K hK
          refine wp_allocU _ rfl ?_
          intro w1 m1 k1 z1
          have h1 := h0.below k1
          have j1 : Below Wb.drew.heap.size Wb.drew w1 := (Below.refl Wb.drew.heap.size Wb.drew).trans (k1.mono (Below.refl Wb.drew.heap.size Wb.drew).size)
          have hg : Wb.heap.size ≤ Wb.drew.heap.size := (Below.refl Wb.drew.heap.size Wb.drew).size
          refine hK _ _ (fun _ => h1) ?_
          clear hK K
          show SeqI _ _ _ _ _ _ (Act.put _ (some 18) _) _
          refine sI_do rfl (wanted_rd rfl) (fun K hK => ?_)
          refine wp_call2 _ 7 (.tmp 60) (.const (.int .i64 100)) _ rfl ((ev_other _ _ (by decide)).trans (ev_same _ _ _ (by simp only [sz_put]; omega))) rfl (enter_spot _ _ _) (spF_any ser 100 (by omega) (by omega) _) ?_
          rw [← unhide ES]
          rintro e wq ⟨rfl, hq⟩
          obtain rfl : w1 = wq := hq.symm
          refine ⟨_, rfl, ?_⟩
          refine hK _ _ (fun _ => h1) ?_
          clear hK K
          show SeqI _ _ _ _ _ _ (Act.put _ (some 61) _) _
          refine sI_do rfl (wanted_rd rfl) (fun K hK => ?_)
          refine wp_call2 _ 9 (.tmp 59) (.tmp 61) _ rfl ((ev_other _ _ (by decide)).trans ((ev_other _ _ (by decide)).trans ((ev_other _ _ (by decide)).trans (ev_same _ _ _ (by omega))))) (ev_same _ _ _ (by simp only [sz_put]; omega)) (enter_loseM _ _ _) (unhide CLOSE _ (hBr.below j1)) ?_
          rintro e w2 ⟨a6, c6, L6, rfl, t6, n2, k2⟩
          have h2 := h1.below k2
          have j2 : Below Wb.drew.heap.size Wb.drew w2 := j1.trans (k2.mono j1.size)
          have m2 := m1.below k2
          refine ⟨_, rfl, ?_⟩
          refine hK _ _ (fun _ => h2) ?_
          clear hK K
          show SeqI _ _ _ _ _ _ (Act.put _ (some 62) _) _
          refine sI_read (v := (.tuple #[busV Y3.now Y3.ser (.slice a6 L6.length c6), .int .i64 (E3 : Nat)])) rfl (fun _ _ _ h => absurd h.1 (fun e => nomatch e)) (wanted_rd rfl) h2 (fun wx _ => run_move (.tmp 62) rfl (ev_same _ _ _ (by simp only [sz_put]; omega)) wx) ?_
          show SeqI _ _ _ _ _ _ (Act.put _ (some 58) _) _
          refine sI_read (v := (busV Y3.now Y3.ser (.slice a6 L6.length c6))) rfl (fun _ _ _ h => absurd h.1 (fun e => nomatch e)) (wanted_rd rfl) h2 (fun wx _ => run_get2 (.tmp 58) 0 rfl (ev_same _ _ _ (by simp only [sz_put]; omega)) rfl wx) ?_
          show SeqI _ _ _ _ _ _ (Act.put _ (some 63) _) _
          refine sI_read (v := (.int .i64 (E3 : Nat))) rfl (fun _ _ _ h => absurd h.1 (fun e => nomatch e)) (wanted_rd rfl) h2 (fun wx _ => run_get2 (.tmp 58) 1 rfl ((ev_other _ _ (by decide)).trans (ev_same _ _ _ (by simp only [sz_put]; omega))) rfl wx) ?_
          show SeqI _ _ _ _ _ _ (Act.put _ (some 64) _) _
          refine sI_do rfl (wanted_rd rfl) (fun K hK => ?_)
          refine wp_storeU _ (.tmp 18) (.tmp 63) rfl ((ev_other _ _ (by decide)).trans ((ev_other _ _ (by decide)).trans ((ev_other _ _ (by decide)).trans ((ev_other _ _ (by decide)).trans ((ev_other _ _ (by decide)).trans (ev_same _ _ _ (by simp only [sz_put]; omega))))))) ((ev_other _ _ (by decide)).trans (ev_same _ _ _ (by simp only [sz_put]; omega))) m2 rfl ?_
          intro w3 m3 k3 z3
          have h3 := h2.kept k3 (by omega)
          refine hK _ _ (fun _ => h3) ?_
          clear hK K
          refine sI_read (v := (.int .i64 (E3 : Nat))) rfl (fun _ _ _ h => absurd h.1 (fun e => nomatch e)) (wanted_rd rfl) h3 (fun wx _ => run_assign (.tmp 64) rfl (ev_same _ _ _ (by simp only [sz_put]; omega)) wx) ?_
          show SeqI _ _ _ _ _ _ (Act.put _ (some 19) _) _
          have jj : Below Wb.heap.size Wb w3 := below_of_kept ((below_drew (Below.refl _ _)).trans (show Below Wb.heap.size Wb.drew w2 from j2)) k3 hg (show Wb.heap.size ≤ w2.heap.size from j2.size)
          exact sI_end ⟨rfl, a6, c6, L6, Wb.drew.heap.size, w1.heap.size, w2.heap.size, ((SmX.of n2 (fun d hd => ((unhide OK3).2.2.1 d.p (t6.mem hd)).2.2.2.2.2)).kept k3 (Or.inl (show Wb.drew.heap.size < w1.heap.size from m1.lt))), (by rw [t6.len]; exact (unhide OK3).2.2.2), m3, jj, hg, (Or.inl (show Wb.drew.heap.size < w1.heap.size from m1.lt)), (show Wb.heap.size ≤ w1.heap.size from j1.size), k2.size, k3.size, rfl⟩
      case rest10 =>
        rintro a' Wc ⟨a9, c9, L9, g3, U3, T3, sx3, ln3, mu3, j3, hg3, hd3, hU3, hT3, hTc, rfl⟩
        have MC := hide ((unhide MC).below j3); have RO := hide ((unhide RO).below j3); have M1 := hide ((unhide M1).below j3); have SX1 := hide ((unhide SX1).below j3)
        have M2b := hide ((unhide M2b).below j3); have SX2 := hide ((unhide SX2).below j3); have SP2 := hide ((unhide SP2).below j3); have M3b := hide mu3; have SX3 := hide sx3
        have J6 := hide ((unhide J6).trans (j3.mono (unhide J6).size))
        have l3 : g3 < Wc.heap.size := mu3.lt
        have hb3 : Wb.heap.size ≤ Wc.heap.size := j3.size
        clear sx3 mu3 j3
        go_frame
        go_wp2_with fail
        refine wp_leaves (fun a0 a' w' => ∃ (a6 : Option Addr) (c6 : Nat) (L6 : List Lp) (g8 Ux Tx : Nat), SmX w' Ux Tx (.slice a6 L6.length c6) L6.length ∧ L6.length ≤ 2513169434843 ∧ BuAt w' g8 Y4.now Y4.ser (.slice a6 L6.length c6) ∧ Below Wc.heap.size Wc w' ∧ Wc.heap.size ≤ g8 ∧ (g8 < Ux ∨ Tx ≤ g8) ∧ Wc.heap.size ≤ Ux ∧ Ux ≤ Tx ∧ Tx ≤ w'.heap.size ∧ a' = (((((((((a0.put (some 66) (busV 0 (kk : Nat) (.slice (some ⟨r, 0, none⟩) kk cq))).put (some 67) (.int .i64 ser)).put (some 20) (.pointer (some ⟨g8, 0, none⟩))).put (some 68) (.int .i64 (Ss : Nat))).put (some 69) (.tuple #[busV Y4.now Y4.ser (.slice a6 L6.length c6), .int .i64 (E4 : Nat)])).put (some 65) (.tuple #[busV Y4.now Y4.ser (.slice a6 L6.length c6), .int .i64 (E4 : Nat)])).put (some 70) (busV Y4.now Y4.ser (.slice a6 L6.length c6))).put (some 71) (.int .i64 (E4 : Nat))).put (some 21) (.int .i64 (E4 : Nat)))) ?reg11 ?rest11
        case reg11 =>
          intro A eA
          have b11 : A.eval (.tmp 11) = .pointer (some ⟨gc, 0, none⟩) := by rw [eA]; rfl
          have bs : A.eval (.tmp 3) = .int .i64 ser := by rw [eA]; rfl
          have hs : 111 ≤ A.tmps.size := by rw [eA]; exact of_decide_eq_true rfl
          clear eA
          have h0 : BuAt Wc.drew gc 0 (kk : Nat) (.slice (some ⟨r, 0, none⟩) kk cq) := unhide MC
          have hBr : BRd Wc.drew (some ⟨r, 0, none⟩) cq M := (unhide RO).rd
          have l1 : gc < Wc.heap.size := (unhide MC).lt
          refine region_I (S := fun W => BuAt W gc 0 (kk : Nat) (.slice (some ⟨r, 0, none⟩) kk cq)) (.rd 0 (.rd 1 (.two 2 7 (.two 3 7 (.rd 4 (.rd 5 (.rd 6 (.go 7 (.go 8 (.rd 9 .fin)))))) (.go 3 (.rd 4 (.rd 5 (.rd 6 (.go 8 (.rd 9 .fin))))))) (.go 2 (.go 3 (.rd 4 (.rd 5 (.rd 6 (.go 8 (.rd 9 .fin)))))))))) [] (by kernel_rfl) (by kernel_rfl) ?_
          refine sI_read (v := (busV 0 (kk : Nat) (.slice (some ⟨r, 0, none⟩) kk cq))) rfl (fun _ _ _ h => absurd h.1 (fun e => nomatch e)) (wanted_rd rfl) h0 (fun wx hx => run_lodU (.tmp 11) rfl b11 hx) ?_
          show SeqI _ _ _ _ _ _ (Act.put _ (some 66) _) _
          refine sI_read (v := (.int .i64 ser)) rfl (fun _ _ _ h => absurd h.1 (fun e => nomatch e)) (wanted_rd rfl) h0 (fun wx _ => run_move (.tmp 3) rfl ((ev_other _ _ (by decide)).trans bs) wx) ?_
          show SeqI _ _ _ _ _ _ (Act.put _ (some 67) _) _
          refine sI_two rfl rfl (wanted_rd rfl) (wanted_rd rfl) ?_ ?_
          · intro K hK
            refine wp_call2 _ 7 (.tmp 67) (.const (.int .i64 100)) _ rfl (ev_same _ _ _ (by simp only [sz_put]; omega)) rfl (enter_spot _ _ _) (spF_any ser 100 (by omega) (by omega) _) ?_
            rw [← unhide ES]
            rintro e wq ⟨rfl, hq⟩
            obtain rfl : Wc.drew = wq := hq.symm
            refine ⟨_, rfl, ?_⟩
            refine hK _ _ (fun _ => h0) ?_
            clear hK K
            show SeqI _ _ _ _ _ _ (Act.put _ (some 68) _) _
            refine sI_two rfl rfl (wanted_rd rfl) (wanted_rd rfl) ?_ ?_
            · intro K hK
              refine wp_call4 _ 8 (.tmp 66) (.tmp 68) (.const (.int .i64 0)) (.const (.int .i64 1)) _ rfl ((ev_other _ _ (by decide)).trans ((ev_other _ _ (by decide)).trans (ev_same _ _ _ (by omega)))) (ev_same _ _ _ (by simp only [sz_put]; omega)) rfl rfl (enter_turnM _ _ _ _ _) (unhide CTURN _ hBr) ?_
              rintro e w1 ⟨a6, c6, L6, rfl, t6, n1, k1⟩
              have h1 := h0.below k1
              have j1 : Below Wc.drew.heap.size Wc.drew w1 := (Below.refl Wc.drew.heap.size Wc.drew).trans (k1.mono (Below.refl Wc.drew.heap.size Wc.drew).size)
              refine ⟨_, rfl, ?_⟩
              refine hK _ _ (fun _ => h1) ?_
              clear hK K
              show SeqI _ _ _ _ _ _ (Act.put _ (some 69) _) _
              refine sI_read (v := (.tuple #[busV Y4.now Y4.ser (.slice a6 L6.length c6), .int .i64 (E4 : Nat)])) rfl (fun _ _ _ h => absurd h.1 (fun e => nomatch e)) (wanted_rd rfl) h1 (fun wx _ => run_move (.tmp 69) rfl (ev_same _ _ _ (by simp only [sz_put]; omega)) wx) ?_
              show SeqI _ _ _ _ _ _ (Act.put _ (some 65) _) _
              refine sI_read (v := (busV Y4.now Y4.ser (.slice a6 L6.length c6))) rfl (fun _ _ _ h => absurd h.1 (fun e => nomatch e)) (wanted_rd rfl) h1 (fun wx _ => run_get2 (.tmp 65) 0 rfl (ev_same _ _ _ (by simp only [sz_put]; omega)) rfl wx) ?_
              show SeqI _ _ _ _ _ _ (Act.put _ (some 70) _) _
              refine sI_read (v := (.int .i64 (E4 : Nat))) rfl (fun _ _ _ h => absurd h.1 (fun e => nomatch e)) (wanted_rd rfl) h1 (fun wx _ => run_get2 (.tmp 65) 1 rfl ((ev_other _ _ (by decide)).trans (ev_same _ _ _ (by simp only [sz_put]; omega))) rfl wx) ?_
              show SeqI _ _ _ _ _ _ (Act.put _ (some 71) _) _
              refine sI_do rfl (wanted_rd rfl) (fun K hK => ?_)
              refine wp_allocU _ rfl ?_
              intro w2 m2 k2 z2
              have h2 := h1.below k2
              have j2 : Below Wc.drew.heap.size Wc.drew w2 := j1.trans (k2.mono j1.size)
              have hg : Wc.heap.size ≤ w1.heap.size := j1.size
              have lb := k2
              refine hK _ _ (fun _ => h2) ?_
              clear hK K
              show SeqI _ _ _ _ _ _ (Act.put _ (some 20) _) _
              refine sI_do rfl (wanted_rd rfl) (fun K hK => ?_)
              refine wp_storeU _ (.tmp 20) (.tmp 70) rfl (ev_same _ _ _ (by simp only [sz_put]; omega)) ((ev_other _ _ (by decide)).trans ((ev_other _ _ (by decide)).trans (ev_same _ _ _ (by simp only [sz_put]; omega)))) m2 rfl ?_
              intro w3 m3 k3 z3
              have h3 := h2.kept k3 (by omega)
              refine hK _ _ (fun _ => h3) ?_
              clear hK K
              refine sI_read (v := (.int .i64 (E4 : Nat))) rfl (fun _ _ _ h => absurd h.1 (fun e => nomatch e)) (wanted_rd rfl) h3 (fun wx _ => run_assign (.tmp 71) rfl ((ev_other _ _ (by decide)).trans (ev_same _ _ _ (by simp only [sz_put]; omega))) wx) ?_
              show SeqI _ _ _ _ _ _ (Act.put _ (some 21) _) _
              have jj : Below Wc.heap.size Wc w3 := below_of_kept ((below_drew (Below.refl _ _)).trans (show Below Wc.heap.size Wc.drew w2 from j2)) k3 hg (show Wc.heap.size ≤ w2.heap.size from j2.size)
              exact sI_end ⟨rfl, a6, c6, L6, w1.heap.size, Wc.drew.heap.size, w1.heap.size, (((SmX.of n1 (fun d hd => ((unhide OK4).2.2.1 d.p (t6.mem hd)).2.2.2.2.2)).below lb).kept k3 (Or.inr (Nat.le_refl _))), (by rw [t6.len]; exact (unhide OK4).2.2.2), m3, jj, hg, (Or.inr (Nat.le_refl _)), (show Wc.heap.size ≤ Wc.drew.heap.size from (Below.refl Wc.drew.heap.size Wc.drew).size), k1.size, Nat.le_trans lb.size k3.size, (by rw [put_swap _ 71 20 _ _ (by decide), put_swap _ 70 20 _ _ (by decide), put_swap _ 65 20 _ _ (by decide), put_swap _ 69 20 _ _ (by decide), put_swap _ 68 20 _ _ (by decide)]; first | done | rfl)⟩
            · intro K hK
              refine wp_allocU _ rfl ?_
              intro w1 m1 k1 z1
              have h1 := h0.below k1
              have j1 : Below Wc.drew.heap.size Wc.drew w1 := (Below.refl Wc.drew.heap.size Wc.drew).trans (k1.mono (Below.refl Wc.drew.heap.size Wc.drew).size)
              have hg : Wc.heap.size ≤ Wc.drew.heap.size := (Below.refl Wc.drew.heap.size Wc.drew).size
              refine hK _ _ (fun _ => h1) ?_
              clear hK K
              show SeqI _ _ _ _ _ _ (Act.put _ (some 20) _) _
              refine sI_do rfl (wanted_rd rfl) (fun K hK => ?_)
              refine wp_call4 _ 8 (.tmp 66) (.tmp 68) (.const (.int .i64 0)) (.const (.int .i64 1)) _ rfl ((ev_other _ _ (by decide)).trans ((ev_other _ _ (by decide)).trans ((ev_other _ _ (by decide)).trans (ev_same _ _ _ (by omega))))) ((ev_other _ _ (by decide)).trans (ev_same _ _ _ (by simp only [sz_put]; omega))) rfl rfl (enter_turnM _ _ _ _ _) (unhide CTURN _ (hBr.below j1)) ?_
              rintro e w2 ⟨a6, c6, L6, rfl, t6, n2, k2⟩
              have h2 := h1.below k2
              have j2 : Below Wc.drew.heap.size Wc.drew w2 := j1.trans (k2.mono j1.size)
              have m2 := m1.below k2
              refine ⟨_, rfl, ?_⟩
              refine hK _ _ (fun _ => h2) ?_
              clear hK K
              show SeqI _ _ _ _ _ _ (Act.put _ (some 69) _) _
              refine sI_read (v := (.tuple #[busV Y4.now Y4.ser (.slice a6 L6.length c6), .int .i64 (E4 : Nat)])) rfl (fun _ _ _ h => absurd h.1 (fun e => nomatch e)) (wanted_rd rfl) h2 (fun wx _ => run_move (.tmp 69) rfl (ev_same _ _ _ (by simp only [sz_put]; omega)) wx) ?_
              show SeqI _ _ _ _ _ _ (Act.put _ (some 65) _) _
              refine sI_read (v := (busV Y4.now Y4.ser (.slice a6 L6.length c6))) rfl (fun _ _ _ h => absurd h.1 (fun e => nomatch e)) (wanted_rd rfl) h2 (fun wx _ => run_get2 (.tmp 65) 0 rfl (ev_same _ _ _ (by simp only [sz_put]; omega)) rfl wx) ?_
              show SeqI _ _ _ _ _ _ (Act.put _ (some 70) _) _
              refine sI_read (v := (.int .i64 (E4 : Nat))) rfl (fun _ _ _ h => absurd h.1 (fun e => nomatch e)) (wanted_rd rfl) h2 (fun wx _ => run_get2 (.tmp 65) 1 rfl ((ev_other _ _ (by decide)).trans (ev_same _ _ _ (by simp only [sz_put]; omega))) rfl wx) ?_
              show SeqI _ _ _ _ _ _ (Act.put _ (some 71) _) _
              refine sI_do rfl (wanted_rd rfl) (fun K hK => ?_)
              refine wp_storeU _ (.tmp 20) (.tmp 70) rfl ((ev_other _ _ (by decide)).trans ((ev_other _ _ (by decide)).trans ((ev_other _ _ (by decide)).trans ((ev_other _ _ (by decide)).trans (ev_same _ _ _ (by simp only [sz_put]; omega)))))) ((ev_other _ _ (by decide)).trans (ev_same _ _ _ (by simp only [sz_put]; omega))) m2 rfl ?_
              intro w3 m3 k3 z3
              have h3 := h2.kept k3 (by omega)
              refine hK _ _ (fun _ => h3) ?_
              clear hK K
              refine sI_read (v := (.int .i64 (E4 : Nat))) rfl (fun _ _ _ h => absurd h.1 (fun e => nomatch e)) (wanted_rd rfl) h3 (fun wx _ => run_assign (.tmp 71) rfl (ev_same _ _ _ (by simp only [sz_put]; omega)) wx) ?_
              show SeqI _ _ _ _ _ _ (Act.put _ (some 21) _) _
              have jj : Below Wc.heap.size Wc w3 := below_of_kept ((below_drew (Below.refl _ _)).trans (show Below Wc.heap.size Wc.drew w2 from j2)) k3 hg (show Wc.heap.size ≤ w2.heap.size from j2.size)
              exact sI_end ⟨rfl, a6, c6, L6, Wc.drew.heap.size, w1.heap.size, w2.heap.size, ((SmX.of n2 (fun d hd => ((unhide OK4).2.2.1 d.p (t6.mem hd)).2.2.2.2.2)).kept k3 (Or.inl (show Wc.drew.heap.size < w1.heap.size from m1.lt))), (by rw [t6.len]; exact (unhide OK4).2.2.2), m3, jj, hg, (Or.inl (show Wc.drew.heap.size < w1.heap.size from m1.lt)), (show Wc.heap.size ≤ w1.heap.size from j1.size), k2.size, k3.size, (by rw [put_swap _ 68 20 _ _ (by decide)]; first | done | rfl)⟩
          · intro K hK
            refine wp_allocU _ rfl ?_
            intro w1 m1 k1 z1
            have h1 := h0.below k1
            have j1 : Below Wc.drew.heap.size Wc.drew w1 := (Below.refl Wc.drew.heap.size Wc.drew).trans (k1.mono (Below.refl Wc.drew.heap.size Wc.drew).size)
            have hg : Wc.heap.size ≤ Wc.drew.heap.size := (Below.refl Wc.drew.heap.size Wc.drew).size
            refine hK _ _ (fun _ => h1) ?_
            clear hK K
            show SeqI _ _ _ _ _ _ (Act.put _ (some 20) _) _
            refine sI_do rfl (wanted_rd rfl) (fun K hK => ?_)
            refine wp_call2 _ 7 (.tmp 67) (.const (.int .i64 100)) _ rfl ((ev_other _ _ (by decide)).trans (ev_same _ _ _ (by simp only [sz_put]; omega))) rfl (enter_spot _ _ _) (spF_any ser 100 (by omega) (by omega) _) ?_
            rw [← unhide ES]
            rintro e wq ⟨rfl, hq⟩
            obtain rfl : w1 = wq := hq.symm
            refine ⟨_, rfl, ?_⟩
            refine hK _ _ (fun _ => h1) ?_
            clear hK K
            show SeqI _ _ _ _ _ _ (Act.put _ (some 68) _) _
            refine sI_do rfl (wanted_rd rfl) (fun K hK => ?_)
            refine wp_call4 _ 8 (.tmp 66) (.tmp 68) (.const (.int .i64 0)) (.const (.int .i64 1)) _ rfl ((ev_other _ _ (by decide)).trans ((ev_other _ _ (by decide)).trans ((ev_other _ _ (by decide)).trans (ev_same _ _ _ (by omega))))) (ev_same _ _ _ (by simp only [sz_put]; omega)) rfl rfl (enter_turnM _ _ _ _ _) (unhide CTURN _ (hBr.below j1)) ?_
            rintro e w2 ⟨a6, c6, L6, rfl, t6, n2, k2⟩
            have h2 := h1.below k2
            have j2 : Below Wc.drew.heap.size Wc.drew w2 := j1.trans (k2.mono j1.size)
            have m2 := m1.below k2
            refine ⟨_, rfl, ?_⟩
            refine hK _ _ (fun _ => h2) ?_
            clear hK K
            show SeqI _ _ _ _ _ _ (Act.put _ (some 69) _) _
            refine sI_read (v := (.tuple #[busV Y4.now Y4.ser (.slice a6 L6.length c6), .int .i64 (E4 : Nat)])) rfl (fun _ _ _ h => absurd h.1 (fun e => nomatch e)) (wanted_rd rfl) h2 (fun wx _ => run_move (.tmp 69) rfl (ev_same _ _ _ (by simp only [sz_put]; omega)) wx) ?_
            show SeqI _ _ _ _ _ _ (Act.put _ (some 65) _) _
            refine sI_read (v := (busV Y4.now Y4.ser (.slice a6 L6.length c6))) rfl (fun _ _ _ h => absurd h.1 (fun e => nomatch e)) (wanted_rd rfl) h2 (fun wx _ => run_get2 (.tmp 65) 0 rfl (ev_same _ _ _ (by simp only [sz_put]; omega)) rfl wx) ?_
            show SeqI _ _ _ _ _ _ (Act.put _ (some 70) _) _
            refine sI_read (v := (.int .i64 (E4 : Nat))) rfl (fun _ _ _ h => absurd h.1 (fun e => nomatch e)) (wanted_rd rfl) h2 (fun wx _ => run_get2 (.tmp 65) 1 rfl ((ev_other _ _ (by decide)).trans (ev_same _ _ _ (by simp only [sz_put]; omega))) rfl wx) ?_
            show SeqI _ _ _ _ _ _ (Act.put _ (some 71) _) _
            refine sI_do rfl (wanted_rd rfl) (fun K hK => ?_)
            refine wp_storeU _ (.tmp 20) (.tmp 70) rfl ((ev_other _ _ (by decide)).trans ((ev_other _ _ (by decide)).trans ((ev_other _ _ (by decide)).trans ((ev_other _ _ (by decide)).trans ((ev_other _ _ (by decide)).trans (ev_same _ _ _ (by simp only [sz_put]; omega))))))) ((ev_other _ _ (by decide)).trans (ev_same _ _ _ (by simp only [sz_put]; omega))) m2 rfl ?_
            intro w3 m3 k3 z3
            have h3 := h2.kept k3 (by omega)
            refine hK _ _ (fun _ => h3) ?_
            clear hK K
            refine sI_read (v := (.int .i64 (E4 : Nat))) rfl (fun _ _ _ h => absurd h.1 (fun e => nomatch e)) (wanted_rd rfl) h3 (fun wx _ => run_assign (.tmp 71) rfl (ev_same _ _ _ (by simp only [sz_put]; omega)) wx) ?_
            show SeqI _ _ _ _ _ _ (Act.put _ (some 21) _) _
            have jj : Below Wc.heap.size Wc w3 := below_of_kept ((below_drew (Below.refl _ _)).trans (show Below Wc.heap.size Wc.drew w2 from j2)) k3 hg (show Wc.heap.size ≤ w2.heap.size from j2.size)
            exact sI_end ⟨rfl, a6, c6, L6, Wc.drew.heap.size, w1.heap.size, w2.heap.size, ((SmX.of n2 (fun d hd => ((unhide OK4).2.2.1 d.p (t6.mem hd)).2.2.2.2.2)).kept k3 (Or.inl (show Wc.drew.heap.size < w1.heap.size from m1.lt))), (by rw [t6.len]; exact (unhide OK4).2.2.2), m3, jj, hg, (Or.inl (show Wc.drew.heap.size < w1.heap.size from m1.lt)), (show Wc.heap.size ≤ w1.heap.size from j1.size), k2.size, k3.size, rfl⟩
        case rest11 =>
          rintro a' Wd ⟨a10, c10, L10, g4, U4, T4, sx4, ln4, mu4, j4, hg4, hd4, hU4, hT4, hTd, rfl⟩
          have MC := hide ((unhide MC).below j4); have RO := hide ((unhide RO).below j4); have M1 := hide ((unhide M1).below j4); have SX1 := hide ((unhide SX1).below j4)
          have M2b := hide ((unhide M2b).below j4); have SX2 := hide ((unhide SX2).below j4); have SP2 := hide ((unhide SP2).below j4); have M3b := hide ((unhide M3b).below j4); have SX3 := hide ((unhide SX3).below j4); have M4b := hide mu4; have SX4 := hide sx4
          have J6 := hide ((unhide J6).trans (j4.mono (unhide J6).size))
          have l4 : g4 < Wd.heap.size := mu4.lt
          have hb4 : Wc.heap.size ≤ Wd.heap.size := j4.size
          clear sx4 mu4 j4
          go_frame
          go_wp2_with fail
          obtain ⟨Us, eUs⟩ : ∃ Us, Us = w6.heap.size := ⟨_, rfl⟩
          obtain ⟨Ts, eTs⟩ : ∃ Ts, Ts = w7.heap.size := ⟨_, rfl⟩
          have zz := unhide Zg1
          rw [← eUs, ← eTs] at SX1
          have hz1 : Us ≤ Ts ∧ Ts ≤ g1 ∧ W.heap.size = Ts + 1 := by omega
          have hWd : W.heap.size ≤ Wd.heap.size := by omega
          have EUs := hide eUs
          clear zz eUs eTs
          go_loopw [22] (fun is wr => ∃ i : Nat, i ≤ PL.length ∧ is = .int .i64 (i : Nat) ∧ SmX wr U2 T2 (.slice pa PL.length pc) PL.length ∧ SmX wr U2 T2 (.slice a8 L8.length c8) L8.length ∧ KI U2 T2 Wd wr) (fun is _ => PL.length - (intOf is).toNat)
          case atStart => exact ⟨0, Nat.zero_le _, rfl, unhide SP2, unhide SX2, ⟨rfl, rfl, rfl, Nat.le_refl _, fun _ _ _ => rfl⟩⟩
          case round =>
            obtain ⟨i, hi, rfl, hp, hu, hki⟩ := hrel
            rename World => wo
            by_cases hin : i < PL.length
            · have hin' : (i : Int) < (PL.length : Nat) := by omega
              obtain ⟨po, pp, A, m, c, ep, hsm⟩ := hp
              cases ep
              obtain ⟨bq, oq, epa, hq1, hq2, hqc⟩ := hsm.cell (by omega)
              subst epa
              have HSM := hide hsm; have HU := hide hu; have HKI := hide hki
              have hmi := (hsm.2.2.2 i hin).2.1
              clear hsm hu hki hqc
              go_wp2_with fail
              go_loopw [23] (fun ks wr => ∃ k : Nat, k ≤ m i ∧ ks = .int .i64 (k : Nat) ∧ SmB U2 T2 wr (some ⟨bq, oq, none⟩) PL.length pc A m c ∧ SmX wr U2 T2 (.slice a8 L8.length c8) L8.length ∧ KI U2 T2 Wd wr) (fun ks _ => m i - (intOf ks).toNat)
              case atStart => exact ⟨0, Nat.zero_le _, rfl, unhide HSM, unhide HU, unhide HKI⟩
              case round =>
                obtain ⟨k, hk, rfl, hsm, hu, hki⟩ := hrel
                rename World => wr
                obtain ⟨b2, o2, eb, _, _, hc2⟩ := hsm.cell (by omega)
                cases eb
                have y4 := (hc2 i hin).1
                by_cases hkm : k < m i
                · obtain ⟨bb, ob, cb, ea, hb1, hb2, hb3, hb4⟩ := hsm.bytes hin (by have := (hsm.2.2.2 i hin).1; omega)
                  have hcm := (hsm.2.2.2 i hin).1
                  have hlt : ob + k < cb.size := by omega
                  have z1 : wr.cell? ⟨bb, ob + k, none⟩ = some cb[ob + k] := by unfold World.cell?; rw [hb3]; exact Array.getElem?_eq_getElem hlt
                  have z2 : wr.frozen? ⟨bb, ob + k, none⟩ = false := by simp [World.frozen?, hb3]
                  have H1 := hide (hsm.byte (x := ob + k) (.int .u8 55) hb3); have H2 := hide (hu.byte (x := ob + k) (.int .u8 55) hb3); have H3 := hide (KI.put (off := ob + k) (.int .u8 55) hki hb1 (Or.inl hb2))
                  rw [ea] at y4
                  have hkm' : (k : Int) < (m i : Nat) := by omega
                  generalize cb[ob + k] = uu at z1
                  generalize m i = mi at *
                  generalize c i = ci at *
                  clear hsm hu hki hc2 ea hb3 hb4 hcm
                  go_wp2_with fail
                  go_roundw
                  case rel => exact ⟨k + 1, by omega, by go_num, unhide H1, unhide H2, unhide H3⟩
                  case measure => simp [intOf] <;> omega
                · have e9 : k = m i := by omega
                  subst e9
                  have H1 := hide (show SmX wr U2 T2 (.slice (some ⟨bq, oq, none⟩) PL.length pc) PL.length from ⟨_, _, A, m, c, rfl, hsm⟩); have H2 := hide hu; have H3 := hide hki
                  clear hsm hu hki hc2
                  go_wp2_with fail
                  go_roundw
                  case rel => exact ⟨i + 1, by omega, by go_num, unhide H1, unhide H2, unhide H3⟩
                  case measure => simp [intOf] <;> omega
            · have e9 : i = PL.length := by omega
              subst e9
              have M1 := hide ((unhide M1).ki hki (by omega)); have M2b := hide ((unhide M2b).ki hki (by omega)); have M3b := hide ((unhide M3b).ki hki (by omega)); have M4b := hide ((unhide M4b).ki hki (by omega))
              have SX1 := hide ((unhide SX1).ki hki (by omega)); have SX2 := hide hu; have SX3 := hide ((unhide SX3).ki hki (by omega)); have SX4 := hide ((unhide SX4).ki hki (by omega))
              have JZ := hide (below_ki (unhide J6) hki (by have := unhide EUs; omega) (unhide J6).size)
              have hs1 : Wd.heap.size ≤ wo.heap.size := hki.size
              clear hp hu hki
              have bb1 := unhide M1
              have s0 := bb1.cell0; have s1 := bb1.cell1; have s2 := bb1.cell2
              obtain ⟨so, sc, sA, sm, sk, es, hsm⟩ := unhide SX1
              cases es
              have CX := smear_any Us Ts Y1.now Y1.ser _ _ _ sA sm sk wo hsm (by omega) (by omega) LN1
              unfold busV at CX
              clear hsm bb1
              go_wp2_with fail
              refine CX.mono ?_
              rintro e x1 ⟨rfl, kx⟩
              have M2b := hide ((unhide M2b).ki kx (by omega)); have M3b := hide ((unhide M3b).ki kx (by omega)); have M4b := hide ((unhide M4b).ki kx (by omega))
              have SX2 := hide ((unhide SX2).ki kx (by omega)); have SX3 := hide ((unhide SX3).ki kx (by omega)); have SX4 := hide ((unhide SX4).ki kx (by omega))
              have JZ := hide (below_ki (unhide JZ) kx (by have := unhide EUs; omega) (unhide JZ).size)
              have hs2 : wo.heap.size ≤ x1.heap.size := kx.size
              clear CX kx s0 s1 s2
              have bb2 := unhide M2b
              have s0 := bb2.cell0; have s1 := bb2.cell1; have s2 := bb2.cell2
              obtain ⟨so, sc, sA, sm, sk, es, hsm⟩ := unhide SX2
              cases es
              have CX := smear_any U2 T2 Y2.now Y2.ser _ _ _ sA sm sk x1 hsm (by omega) (by omega) ln2
              unfold busV at CX
              clear hsm bb2
              go_wp2_with fail
              refine CX.mono ?_
              rintro e x2 ⟨rfl, kx⟩
              have M3b := hide ((unhide M3b).ki kx (by omega)); have M4b := hide ((unhide M4b).ki kx (by omega))
              have SX3 := hide ((unhide SX3).ki kx (by omega)); have SX4 := hide ((unhide SX4).ki kx (by omega))
              have JZ := hide (below_ki (unhide JZ) kx (by have := unhide EUs; omega) (unhide JZ).size)
              have hs3 : x1.heap.size ≤ x2.heap.size := kx.size
              clear CX kx s0 s1 s2
              have bb3 := unhide M3b
              have s0 := bb3.cell0; have s1 := bb3.cell1; have s2 := bb3.cell2
              obtain ⟨so, sc, sA, sm, sk, es, hsm⟩ := unhide SX3
              cases es
              have CX := smear_any U3 T3 Y3.now Y3.ser _ _ _ sA sm sk x2 hsm (by omega) (by omega) ln3
              unfold busV at CX
              clear hsm bb3
              go_wp2_with fail
              refine CX.mono ?_
              rintro e x3 ⟨rfl, kx⟩
              have M4b := hide ((unhide M4b).ki kx (by omega))
              have SX4 := hide ((unhide SX4).ki kx (by omega))
              have JZ := hide (below_ki (unhide JZ) kx (by have := unhide EUs; omega) (unhide JZ).size)
              have hs4 : x2.heap.size ≤ x3.heap.size := kx.size
              clear CX kx s0 s1 s2
              have bb4 := unhide M4b
              have s0 := bb4.cell0; have s1 := bb4.cell1; have s2 := bb4.cell2
              obtain ⟨so, sc, sA, sm, sk, es, hsm⟩ := unhide SX4
              cases es
              have CX := smear_any U4 T4 Y4.now Y4.ser _ _ _ sA sm sk x3 hsm (by omega) (by omega) ln4
              unfold busV at CX
              clear hsm bb4
              go_wp2_with fail
              refine CX.mono ?_
              rintro e x4 ⟨rfl, kx⟩
              have JZ := below_ki (unhide JZ) kx (by have := unhide EUs; omega) (unhide JZ).size
              have mc := (unhide MC6).below JZ; have mb := (unhide MB).below JZ
              have v0 := mc.cell0; have v1 := mc.cell1; have v2 := mc.cell2; have u0 := mb.cell0; have u1 := mb.cell1; have u2 := mb.cell2
              have CY := stayedBus_any 0 (kk : Nat) (ldQ D kk) _ r cq M a1 c1 L1 x4 (fun p hp => (unhide HB).2.2.1 p (by rw [unhide EB]; exact hp)) (unhide TM) (by rw [unhide EL1]; exact (unhide RO6).below JZ) (unhide T1) ((unhide RB).below JZ) (by rw [unhide EL1]; exact hk100)
              rw [unhide EL1] at CY
              unfold busV at CY
              have VDZ := hide ((unhide VD).below JZ); have SDZ := hide ((unhide SDx).below JZ)
              have KZ := hide ((unhide K6).trans (JZ.mono (unhide K6).size))
              clear CX kx s0 s1 s2 mc mb JZ
              rw [egb] at *
              go_wp2_with fail
              refine CY.mono ?_
              rintro e x5 ⟨rfl, k5⟩
              have CZ := stayedB_any rd cd (bo) (ds.length) bc (gF dt) x5 (by omega) ((unhide VDZ).below k5) ((unhide SDZ).below k5).rd
              have KZ := hide ((unhide KZ).trans (k5.mono (unhide KZ).size))
              clear CY k5 v0 v1 v2 u0 u1 u2
              go_wp2_with fail
              refine CZ.mono ?_
              rintro e x6 ⟨rfl, k6⟩
              have KZ := hide ((unhide KZ).trans (k6.mono (unhide KZ).size))
              clear CZ k6
              go_wp2_with fail
              go_ret
              exact ⟨rfl, unhide KZ⟩

end Go.Proofs.Ythjeedlhlkggkab
