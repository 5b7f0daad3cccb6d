/- The walk of BusPlays, whatever the bus is made of. -/
import Derived.Test.YthjeedlhlkggkaaLawsU2
import Derived.Test.YthjeedlhlkggkaaLawsU3
import Derived.Test.YthjeedlhlkggkaaBusNew
namespace Go.Proofs.Ythjeedlhlkggkaa
open Go.RowKit

theorem run_fldD {f : Operand → Value} {o : Oper} (x : Operand) (k : Nat) (ho : o.op = .fieldAddr 42 x k) {b : Nat} (hx : f x = .pointer (some ⟨b, 0, none⟩)) (hk : k < 5) (w : World) :
    (execOp f o).run Try.prog w = .ok (.value (.pointer (some ⟨b, k, none⟩))) w := by
  have : k = 0 ∨ k = 1 ∨ k = 2 ∨ k = 3 ∨ k = 4 := by omega
  unfold execOp
  rw [ho]
  dsimp only
  rw [hx]
  rcases this with rfl | rfl | rfl | rfl | rfl <;> go_simp
/-- What lies in memory while a bus is played with. -/
def BpI (w : World) (g : Nat) (b : Bs) (a : Option Addr) (c : Nat) (L : List Lp) (a2 : Option Addr) (c2 : Nat) (L2 : List Lp) (W : World) : Prop :=
  BuAt W w.heap.size b.now b.ser (.slice a L.length c) ∧ BuAt W (w.heap.size + 1) b.now b.ser (.slice a2 L2.length c2) ∧ (∃ r, BuAt W g 0 1 r) ∧ BRd W a c L ∧ BRd W a2 c2 L2 ∧ Below w.heap.size w W ∧ w.heap.size + 1 + 1 ≤ g
section
variable {w W W' : World} {g c c2 : Nat} {b : Bs} {a a2 : Option Addr} {L L2 : List Lp}
theorem BpI.below (h : BpI w g b a c L a2 c2 L2 W) (k : Below W.heap.size W W') : BpI w g b a c L a2 c2 L2 W' := by
  obtain ⟨r, hg⟩ := h.2.2.1
  exact ⟨h.1.below k, h.2.1.below k, ⟨r, hg.below k⟩, h.2.2.2.1.below k, h.2.2.2.2.1.below k, h.2.2.2.2.2.1.trans (k.mono h.2.2.2.2.2.1.size), h.2.2.2.2.2.2⟩
end
/-- A deed and two new buses. -/
theorem deed_three (w : World) (p : Pc) (v : Value) : ∃ w1, w1 = (((w.alloc (.cells #[.int .i64 p.fr, .int .i64 p.to, .int .i64 p.du, .int .i64 p.se, v] 42)).alloc (.cells #[.int .i64 0, .int .i64 0, .slice none 0 0] 24)).alloc (.cells #[.int .i64 0, .int .i64 0, .slice none 0 0] 24)) ∧ PcAt w1 w.heap.size 0 p v ∧ BuAt w1 (w.heap.size + 1) 0 0 (.slice none 0 0) ∧ BuAt w1 (w.heap.size + 1 + 1) 0 0 (.slice none 0 0) ∧ Below w.heap.size w w1 ∧ w1.heap.size = w.heap.size + 1 + 1 + 1 := by
  have m0 := pc_new w 42 p v
  have k0 := al_below w (.cells #[.int .i64 p.fr, .int .i64 p.to, .int .i64 p.du, .int .i64 p.se, v] 42)
  have s0 := al_size w (.cells #[.int .i64 p.fr, .int .i64 p.to, .int .i64 p.du, .int .i64 p.se, v] 42)
  obtain ⟨w1, e1, m1, k1, s1⟩ := bu_alloc (w.alloc (.cells #[.int .i64 p.fr, .int .i64 p.to, .int .i64 p.du, .int .i64 p.se, v] 42)) 0 0 (.slice none 0 0)
  obtain ⟨w2, e2, m2, k2, s2⟩ := bu_alloc w1 0 0 (.slice none 0 0)
  subst e1
  rw [s0] at m1
  rw [s1, s0] at m2
  exact ⟨w2, e2, (m0.below k1).below k2, m1.below k2, m2, (k0.trans (k1.mono (by omega))).trans (k2.mono (by omega)), by omega⟩
theorem enter_send (p q r s t : Value) (w : World) : (callFunc 9 #[p, q, r, s, t]).run Try.prog w = .ok (.enter 9 #[p, q, r, s, t]) w := by go_simp
theorem enter_lbytes (p : Value) (w : World) : (callFunc 11 #[p]).run Try.prog w = .ok (.enter 11 #[p]) w := by go_simp
theorem own_sr' {w : World} {B : Nat} {ao : Option Addr} {n cap : Nat} {f : Nat → Value} (h : w.ownsRow B 5 1 (.slice ao n cap) n (rowV f n)) : Sr w ao n cap f := by obtain ⟨_, _, e, h, _⟩ := owns_sr h; cases e; exact h

set_option maxRecDepth 100000 in
set_option maxHeartbeats 8000000 in
theorem busPlays_by (hS : SeOK 9) (hP : SpOK' 14) (hL : LoOK 17) (hU : TuOK 19) (ao : Option Addr) (cap : Nat) (D : List Lp) {w : World} (hD : ∀ c, c ∈ D → PcOK c.p) (hr : BRd w ao cap D) (hlen : D.length ≤ 9223372036854775807) :
    Calls Try.prog 6 #[.slice ao D.length cap] w fun e w' => e = .returned (.bool true) ∧ Below w.heap.size w w' := by
  obtain ⟨w1, e1, m1, m2, k1, s1⟩ := bu_two w 0 0 (.slice none 0 0) (.slice none 0 0)
  have CZ := hS zeroBs none 0 [] 0 1 0 none 0 [] w1 zeroBs_ok rfl (BRd.nil _ _ _) (by unfold R64; omega) (by unfold R64; omega) (by unfold R64; omega) (sr_nil _) (by decide) (fun _ h => absurd h (by simp)) (by decide)
  rw [send_zero.1] at CZ
  unfold busV zeroBs at CZ
  dsimp only at CZ
  rw [show ([] : List Lp).length = 0 from rfl, show ([] : List Nat).length = 0 from rfl, show ([] : List Pc).length = 0 from rfl, send_zero.2] at CZ
  have E1 := hide e1; have M1 := hide m1; have M2 := hide m2; have K1 := hide k1; have S1 := hide s1; have HD := hide hD; have HR := hide hr
  clear e1 m1 m2 k1 s1 hD hr
  go_enter Try.func6, Try.ntmps6
  go_wp2_with fail
  rw [← unhide E1]
  refine CZ.mono ?_
  rintro e w2 ⟨az, cz, Lz, rfl, tz, nz, k2⟩
  obtain ⟨w3, e3, m3, k3, s3⟩ := bu_alloc w2 0 1 (.slice az Lz.length cz)
  obtain ⟨g, eg⟩ : ∃ g, g = w2.heap.size := ⟨_, rfl⟩
  rw [← eg] at m3
  have H3 := hide (show BpI w g zeroBs none 0 [] none 0 [] w3 from ⟨((unhide M1).below k2).below k3, ((unhide M2).below k2).below k3, ⟨_, m3⟩, BRd.nil _ _ _, BRd.nil _ _ _, (unhide K1).trans ((k2.mono (by have := unhide S1; omega)).trans (k3.mono (by have := unhide S1; have := k2.size; omega))), by have := unhide S1; have := k2.size; omega⟩)
  have E3 := hide e3
  clear CZ tz nz k2 e3 m3 k3 s3
  go_wp2_with fail
  rw [← unhide E3, ← eg]
  clear eg E3
  go_loopw [7] (fun is wr => ∃ (i : Nat) (b : Bs) (a : Option Addr) (c : Nat) (L : List Lp) (a2 : Option Addr) (c2 : Nat) (L2 : List Lp), i ≤ D.length ∧ i ≤ 200 ∧ is = .int .i64 (i : Nat) ∧ BsOK b ∧ These L b.q ∧ These L2 b.q ∧ BpI w g b a c L a2 c2 L2 wr) (fun is _ => 200 - (intOf is).toNat)
  case atStart => exact ⟨0, zeroBs, none, 0, [], none, 0, [], Nat.zero_le _, Nat.zero_le _, rfl, zeroBs_ok, rfl, rfl, unhide H3⟩
  case round =>
    obtain ⟨i, b, a, c, L, a2, c2, L2, hi, hi2, rfl, hb, t1, t2, hI⟩ := hrel
    rename World => wr
    by_cases hin : i < D.length
    · have hin' : (i : Int) < (D.length : Nat) := by omega
      by_cases h200 : i < 200
      · have h200' : (i : Int) < 200 := by omega
        have hc := List.getElem?_eq_getElem hin
        obtain ⟨dd, ed⟩ : ∃ dd, dd = D[i] := ⟨_, rfl⟩
        rw [← ed] at hc
        have R := (unhide HR).below hI.2.2.2.2.2.1
        obtain ⟨x, o, rfl, hq⟩ := R.1 (by omega)
        obtain ⟨p0, p1, p2, p3, p4⟩ := hq i dd hc
        have pr := R.2.2 dd (List.mem_of_getElem? hc)
        have po := unhide HD dd (List.mem_of_getElem? hc)
        obtain ⟨⟨Kd, A, B, G, ds⟩, ba, bc⟩ := dd
        unfold lpV at p4
        dsimp only at p0 p1 p2 p3 p4 pr po
        obtain ⟨w5, e5, m5, mx, my, k5, s5⟩ := deed_three wr ⟨Kd, A, B, G, ds⟩ (.slice ba ds.length bc)
        dsimp only at e5
        have H5 := hI.below k5
        have S5 := hide (pr.1.below k5); have S0 := hide pr.1; have hbc : ds.length ≤ bc := pr.2
        obtain ⟨rK, rA, rB, rG, h256, hdl⟩ := po
        dsimp only at rK rA rB rG h256 hdl
        obtain ⟨q0, q1, q2, q3, q4⟩ := m5.zero
        dsimp only at q0 q1 q2 q3
        have v0 := H5.1.cell0; have v1 := H5.1.cell1; have v2 := H5.1.cell2
        have xf0 := mx.free 0; have xf1 := mx.free 1; have xf2 := mx.free 2; have xc0 := mx.cell0; have xc1 := mx.cell1; have xc2 := mx.cell2
        have E5 := hide e5; have HH := hide H5; have M5 := hide m5; have MX := hide mx; have MY := hide my; have Z5 := hide s5; have HB := hide hb; have T1 := hide t1; have T2 := hide t2; have H256 := hide h256; have HI0 := hide hI; have K5 := hide k5
        rw [e5] at q0 q1 q2 q3 q4 v0 v1 v2 xf0 xf1 xf2 xc0 xc1 xc2
        clear hc ed R hq pr e5 H5 m5 mx my k5 s5 hb t1 t2 hI h256
        by_cases h1 : Kd = 1
        · subst h1
          obtain ⟨Y, eY⟩ : ∃ Y, Y = sendS b A B ds G := ⟨_, rfl⟩
          obtain ⟨E, eE⟩ : ∃ E : Nat, E = sendE b.now b.q.length A B G ds.length := ⟨_, rfl⟩
          have HY := hide (show BsOK Y by rw [eY]; exact sendS_ok (unhide HB) (unhide H256))
          have EY := hide eY; have EE := hide eE
          clear eY eE
          go_wp2_with fail
          rw [← unhide E5]
          refine wp_leaves (fun a0 a' w7 => ∃ (a6 : Option Addr) (c6 : Nat) (L6 : List Lp) (w6 : World) (da : Option Addr) (dc : Nat), These L6 Y.q ∧ BNew w5.heap.size w6 a6 c6 L6 ∧ Below w5.heap.size w5 w6 ∧ BuAt w7 (wr.heap.size + 1) Y.now Y.ser (.slice a6 L6.length c6) ∧ Kept (wr.heap.size + 1) w6 w7 ∧ w7.heap.size = w6.heap.size ∧ a' = (((((((((((((((a0.put (some 61) (busV b.now b.ser (.slice a L.length c))).put (some 62) (.pointer (some ⟨wr.heap.size, 1, none⟩))).put (some 63) (.int .i64 A)).put (some 64) (.pointer (some ⟨wr.heap.size, 2, none⟩))).put (some 65) (.int .i64 B)).put (some 66) (.pointer (some ⟨wr.heap.size, 4, none⟩))).put (some 67) (.slice ba ds.length bc)).put (some 69) (.pointer (some ⟨wr.heap.size, 3, none⟩))).put (some 70) (.int .i64 G)).put (some 68) (.slice da ds.length dc)).put (some 71) (.tuple #[busV Y.now Y.ser (.slice a6 L6.length c6), .int .i64 (E : Nat)])).put (some 60) (.tuple #[busV Y.now Y.ser (.slice a6 L6.length c6), .int .i64 (E : Nat)])).put (some 72) (busV Y.now Y.ser (.slice a6 L6.length c6))).put (some 73) (.int .i64 (E : Nat))).put (some 13) (.int .i64 (E : Nat)))) ?reg ?rest
          case reg =>
            intro AA eA
            have b3 : AA.eval (.tmp 3) = .pointer (some ⟨w.heap.size, 0, none⟩) := by rw [eA]; rfl
            have b8 : AA.eval (.tmp 8) = .pointer (some ⟨wr.heap.size, 0, none⟩) := by rw [eA]; rfl
            have b9 : AA.eval (.tmp 9) = .pointer (some ⟨wr.heap.size + 1, 0, none⟩) := by rw [eA]; rfl
            have hs : 143 ≤ AA.tmps.size := by rw [eA]; exact of_decide_eq_true rfl
            clear eA
            have hS0 : BuAt w5.drew w.heap.size b.now b.ser (.slice a L.length c) ∧ PcAt w5.drew wr.heap.size 0 ⟨1, A, B, G, ds⟩ (.slice ba ds.length bc) := ⟨(unhide HH).1, unhide M5⟩
            refine region_I (S := fun W => BuAt W w.heap.size b.now b.ser (.slice a L.length c) ∧ PcAt W wr.heap.size 0 ⟨1, A, B, G, ds⟩ (.slice ba ds.length bc)) (.rd 0 (.rd 1 (.rd 2 (.rd 3 (.rd 4 (.rd 5 (.rd 6 (.rd 8 (.rd 9 (.go 7 (.go 10 (.rd 11 (.rd 12 (.rd 13 (.go 14 (.rd 15 .fin)))))))))))))))) [] (by kernel_rfl) (by kernel_rfl) ?_
            refine sI_read (v := (busV b.now b.ser (.slice a L.length c))) rfl (fun _ _ _ h => absurd h.1 (fun e => nomatch e)) (wanted_rd rfl) hS0 (fun wx hx => run_lodU (.tmp 3) rfl b3 hx.1) ?_
            show SeqI _ _ _ _ _ _ (Act.put _ (some 61) _) _
            refine sI_read (v := (.pointer (some ⟨wr.heap.size, 1, none⟩))) rfl (fun _ _ _ h => absurd h.1 (fun e => nomatch e)) (wanted_rd rfl) hS0 (fun wx _ => run_fldD (.tmp 8) 1 rfl ((ev_other _ _ (by decide)).trans b8) (by omega) wx) ?_
            show SeqI _ _ _ _ _ _ (Act.put _ (some 62) _) _
            refine sI_read (v := (.int .i64 A)) rfl (fun _ _ _ h => absurd h.1 (fun e => nomatch e)) (wanted_rd rfl) hS0 (fun wx hx => run_lodN (.tmp 62) rfl (ev_same _ _ _ (by simp only [sz_put]; omega)) hx.2.zero.2.1) ?_
            show SeqI _ _ _ _ _ _ (Act.put _ (some 63) _) _
            refine sI_read (v := (.pointer (some ⟨wr.heap.size, 2, none⟩))) rfl (fun _ _ _ h => absurd h.1 (fun e => nomatch e)) (wanted_rd rfl) hS0 (fun wx _ => run_fldD (.tmp 8) 2 rfl ((ev_other _ _ (by decide)).trans ((ev_other _ _ (by decide)).trans ((ev_other _ _ (by decide)).trans b8))) (by omega) wx) ?_
            show SeqI _ _ _ _ _ _ (Act.put _ (some 64) _) _
            refine sI_read (v := (.int .i64 B)) rfl (fun _ _ _ h => absurd h.1 (fun e => nomatch e)) (wanted_rd rfl) hS0 (fun wx hx => run_lodN (.tmp 64) rfl (ev_same _ _ _ (by simp only [sz_put]; omega)) hx.2.zero.2.2.1) ?_
            show SeqI _ _ _ _ _ _ (Act.put _ (some 65) _) _
            refine sI_read (v := (.pointer (some ⟨wr.heap.size, 4, none⟩))) rfl (fun _ _ _ h => absurd h.1 (fun e => nomatch e)) (wanted_rd rfl) hS0 (fun wx _ => run_fldD (.tmp 8) 4 rfl ((ev_other _ _ (by decide)).trans ((ev_other _ _ (by decide)).trans ((ev_other _ _ (by decide)).trans ((ev_other _ _ (by decide)).trans ((ev_other _ _ (by decide)).trans b8))))) (by omega) wx) ?_
            show SeqI _ _ _ _ _ _ (Act.put _ (some 66) _) _
            refine sI_read (v := (.slice ba ds.length bc)) rfl (fun _ _ _ h => absurd h.1 (fun e => nomatch e)) (wanted_rd rfl) hS0 (fun wx hx => run_lodS (.tmp 66) rfl (ev_same _ _ _ (by simp only [sz_put]; omega)) hx.2.zero.2.2.2.2) ?_
            show SeqI _ _ _ _ _ _ (Act.put _ (some 67) _) _
            refine sI_read (v := (.pointer (some ⟨wr.heap.size, 3, none⟩))) rfl (fun _ _ _ h => absurd h.1 (fun e => nomatch e)) (wanted_rd rfl) hS0 (fun wx _ => run_fldD (.tmp 8) 3 rfl ((ev_other _ _ (by decide)).trans ((ev_other _ _ (by decide)).trans ((ev_other _ _ (by decide)).trans ((ev_other _ _ (by decide)).trans ((ev_other _ _ (by decide)).trans ((ev_other _ _ (by decide)).trans ((ev_other _ _ (by decide)).trans b8))))))) (by omega) wx) ?_
            show SeqI _ _ _ _ _ _ (Act.put _ (some 69) _) _
            refine sI_read (v := (.int .i64 G)) rfl (fun _ _ _ h => absurd h.1 (fun e => nomatch e)) (wanted_rd rfl) hS0 (fun wx hx => run_lodN (.tmp 69) rfl (ev_same _ _ _ (by simp only [sz_put]; omega)) hx.2.zero.2.2.2.1) ?_
            show SeqI _ _ _ _ _ _ (Act.put _ (some 70) _) _
            refine sI_do rfl (wanted_rd rfl) (fun K hK => ?_)
            refine wp_call1 _ 11 (.tmp 67) _ rfl ((ev_other _ _ (by decide)).trans ((ev_other _ _ (by decide)).trans (ev_same _ _ _ (by simp only [sz_put]; omega)))) (enter_lbytes _ _) (lawBytes_any ba ds.length bc (gF ds) _ (show Sr w5.drew ba ds.length bc (bF (gF ds)) from unhide S5) hdl) ?_
            rintro e w3 ⟨da, dc, rfl, hdc, o3, k3⟩
            have hS3 : BuAt w3 w.heap.size b.now b.ser (.slice a L.length c) ∧ PcAt w3 wr.heap.size 0 ⟨1, A, B, G, ds⟩ (.slice ba ds.length bc) := ⟨hS0.1.below k3, hS0.2.below k3⟩
            refine ⟨_, rfl, ?_⟩
            refine hK _ _ (fun _ => hS3) ?_
            clear hK K
            show SeqI _ _ _ _ _ _ (Act.put _ (some 68) _) _
            refine sI_do rfl (wanted_rd rfl) (fun K hK => ?_)
            refine wp_call5 _ 9 (.tmp 61) (.tmp 63) (.tmp 65) (.tmp 68) (.tmp 70) _ rfl ((ev_other _ _ (by decide)).trans ((ev_other _ _ (by decide)).trans ((ev_other _ _ (by decide)).trans ((ev_other _ _ (by decide)).trans ((ev_other _ _ (by decide)).trans ((ev_other _ _ (by decide)).trans ((ev_other _ _ (by decide)).trans ((ev_other _ _ (by decide)).trans ((ev_other _ _ (by decide)).trans (ev_same _ _ _ (by omega))))))))))) ((ev_other _ _ (by decide)).trans ((ev_other _ _ (by decide)).trans ((ev_other _ _ (by decide)).trans ((ev_other _ _ (by decide)).trans ((ev_other _ _ (by decide)).trans ((ev_other _ _ (by decide)).trans ((ev_other _ _ (by decide)).trans (ev_same _ _ _ (by simp only [sz_put]; omega))))))))) ((ev_other _ _ (by decide)).trans ((ev_other _ _ (by decide)).trans ((ev_other _ _ (by decide)).trans ((ev_other _ _ (by decide)).trans ((ev_other _ _ (by decide)).trans (ev_same _ _ _ (by simp only [sz_put]; omega))))))) (ev_same _ _ _ (by simp only [sz_put]; omega)) ((ev_other _ _ (by decide)).trans (ev_same _ _ _ (by simp only [sz_put]; omega))) (enter_send _ _ _ _ _ _) (hS b a c L A B G da dc ds _ (unhide HB) (unhide T1) ((show BRd w5.drew a c L from (unhide HH).2.2.2.1).below k3) rA rB rG (own_sr' o3) hdc (unhide H256) hdl) ?_
            rw [← unhide EY, ← unhide EE]
            rintro e w6 ⟨a6, c6, L6, rfl, t6, n6, k6⟩
            have hS6 : BuAt w6 w.heap.size b.now b.ser (.slice a L.length c) ∧ PcAt w6 wr.heap.size 0 ⟨1, A, B, G, ds⟩ (.slice ba ds.length bc) := ⟨hS3.1.below k6, hS3.2.below k6⟩
            have J6 : Below w5.heap.size w5 w6 := (below_drew (Below.refl _ _)).trans (show Below w5.heap.size w5.drew w6 from k3.trans (k6.mono k3.size))
            refine ⟨_, rfl, ?_⟩
            refine hK _ _ (fun _ => hS6) ?_
            clear hK K
            show SeqI _ _ _ _ _ _ (Act.put _ (some 71) _) _
            refine sI_read (v := (.tuple #[busV Y.now Y.ser (.slice a6 L6.length c6), .int .i64 (E : Nat)])) rfl (fun _ _ _ h => absurd h.1 (fun e => nomatch e)) (wanted_rd rfl) hS6 (fun wx _ => run_move (.tmp 71) rfl (ev_same _ _ _ (by simp only [sz_put]; omega)) wx) ?_
            show SeqI _ _ _ _ _ _ (Act.put _ (some 60) _) _
            refine sI_read (v := (busV Y.now Y.ser (.slice a6 L6.length c6))) rfl (fun _ _ _ h => absurd h.1 (fun e => nomatch e)) (wanted_rd rfl) hS6 (fun wx _ => run_get2 (.tmp 60) 0 rfl (ev_same _ _ _ (by simp only [sz_put]; omega)) rfl wx) ?_
            show SeqI _ _ _ _ _ _ (Act.put _ (some 72) _) _
            refine sI_read (v := (.int .i64 (E : Nat))) rfl (fun _ _ _ h => absurd h.1 (fun e => nomatch e)) (wanted_rd rfl) hS6 (fun wx _ => run_get2 (.tmp 60) 1 rfl ((ev_other _ _ (by decide)).trans (ev_same _ _ _ (by simp only [sz_put]; omega))) rfl wx) ?_
            show SeqI _ _ _ _ _ _ (Act.put _ (some 73) _) _
            refine sI_do rfl (wanted_rd rfl) (fun K hK => ?_)
            refine wp_storeU _ (.tmp 9) (.tmp 72) rfl ((ev_other _ _ (by decide)).trans ((ev_other _ _ (by decide)).trans ((ev_other _ _ (by decide)).trans ((ev_other _ _ (by decide)).trans ((ev_other _ _ (by decide)).trans ((ev_other _ _ (by decide)).trans ((ev_other _ _ (by decide)).trans ((ev_other _ _ (by decide)).trans ((ev_other _ _ (by decide)).trans ((ev_other _ _ (by decide)).trans ((ev_other _ _ (by decide)).trans ((ev_other _ _ (by decide)).trans ((ev_other _ _ (by decide)).trans ((ev_other _ _ (by decide)).trans b9)))))))))))))) ((ev_other _ _ (by decide)).trans (ev_same _ _ _ (by simp only [sz_put]; omega))) ((unhide MX).below J6) rfl ?_
            intro w7 m7 k7 z7
            have hS7 : BuAt w7 w.heap.size b.now b.ser (.slice a L.length c) ∧ PcAt w7 wr.heap.size 0 ⟨1, A, B, G, ds⟩ (.slice ba ds.length bc) := ⟨hS6.1.kept k7 (by have := (unhide HI0).1.lt; omega), hS6.2.kept k7 (by omega)⟩
            refine hK _ _ (fun _ => hS7) ?_
            clear hK K
            refine sI_read (v := (.int .i64 (E : Nat))) rfl (fun _ _ _ h => absurd h.1 (fun e => nomatch e)) (wanted_rd rfl) hS7 (fun wx _ => run_assign (.tmp 73) rfl (ev_same _ _ _ (by simp only [sz_put]; omega)) wx) ?_
            show SeqI _ _ _ _ _ _ (Act.put _ (some 13) _) _
            exact sI_end ⟨rfl, a6, c6, L6, w6, da, dc, t6, n6.weak (show w5.heap.size ≤ w3.heap.size from k3.size), J6, m7, k7, z7, rfl⟩
          case rest =>
            rintro a' w7 ⟨a6, c6, L6, w6, da, dc, t6, n6, J6, m7, k7, z7, rfl⟩
            go_frame
            have zd : True := trivial
            have n7 := n6.kept k7 (by have := unhide Z5; omega)
            have J7 := below_of_kept (J6.mono (show wr.heap.size ≤ w5.heap.size by have := unhide Z5; omega)) k7 (by omega) (by have := unhide Z5; have := J6.size; omega)
            have J07 := (unhide K5).trans J7
            have h7 := (unhide HI0).below J07
            have y7 := ((unhide MY).below J6).kept k7 (by omega)
            have d7 := ((unhide M5).below J6).kept k7 (by omega)
            obtain ⟨_, q1, q2, q3, q4⟩ := d7.zero
            dsimp only at q1 q2 q3
            have v0 := h7.2.1.cell0; have v1 := h7.2.1.cell1; have v2 := h7.2.1.cell2
            have yf0 := y7.free 0; have yf1 := y7.free 1; have yf2 := y7.free 2; have yc0 := y7.cell0; have yc1 := y7.cell1; have yc2 := y7.cell2
            have SR7 : Sr w7 ba ds.length bc (bF (gF ds)) := by
              have h0 := unhide S0
              exact h0.below J07
            have CR := refSend_ok b a2 c2 L2 A B G ba bc ds w7 (unhide HB) (unhide T2) h7.2.2.2.2.1 rA rB rG SR7 hbc (unhide H256) hdl
            rw [← unhide EY, ← unhide EE] at CR
            unfold busV at CR
            have HH7 := hide h7; have MX7 := hide m7; have MY7 := hide y7; have NX7 := hide n7; have J5 := hide J07; have TX := hide t6
            have Z7 := hide (show wr.heap.size + 1 + 1 + 1 ≤ w7.heap.size by have := unhide Z5; have := J6.size; omega)
            clear h7 m7 y7 n7 J7 J07 J6 k7 z7 n6 t6 d7
            go_wp2_with fail
            refine CR.mono ?_
            rintro e w8 ⟨a8, c8, L8, rfl, t8, n8, k8⟩
            have my8 := (unhide MY7).below k8
            have gf0 := my8.free 0; have gf1 := my8.free 1; have gf2 := my8.free 2; have gc0 := my8.cell0; have gc1 := my8.cell1; have gc2 := my8.cell2
            obtain ⟨w9, e9, m9, k9, z9⟩ := my8.put Y.now Y.ser (.slice a8 L8.length c8)
            have E9 := hide e9
            have n9 := n8.kept k9 (by have := unhide Z7; omega)
            have nx9 := ((unhide NX7).below k8).kept k9 (by have := unhide Z5; omega)
            have x9 := ((unhide MX7).below k8).kept k9 (by omega)
            have J9 := below_of_kept ((unhide J5).trans (k8.mono (unhide J5).size)) k9 (by omega) (by have := (unhide J5).size; have := k8.size; omega)
            have h9 := (unhide HI0).below J9
            have CB := sameBus_any Y a6 c6 L6 a8 c8 L8 w9 (unhide HY) (unhide TX) t8 nx9.1 n9.1
            unfold busV at CB
            have xx0 := x9.cell0; have xx1 := x9.cell1; have xx2 := x9.cell2; have yy0 := m9.cell0; have yy1 := m9.cell1; have yy2 := m9.cell2
            have HH9 := hide h9; have NX9 := hide nx9; have NY9 := hide n9; have X9 := hide x9; have Y9 := hide m9; have TY := hide t8
            have Z9 := hide (show wr.heap.size + 1 + 1 + 1 ≤ w9.heap.size by have := unhide Z7; have := k8.size; omega)
            rw [e9] at xx0 xx1 xx2 yy0 yy1 yy2
            clear CR my8 e9 m9 k9 z9 n9 nx9 x9 J9 h9 k8 n8 t8 v0 v1 v2 q1 q2 q3 q4 yf0 yf1 yf2 yc0 yc1 yc2
            go_wp2_with fail
            rw [← unhide E9]
            refine CB.mono ?_
            rintro e wa ⟨rfl, ka⟩
            have CQ := sameParcels_any [] none 0 [] none 0 [] wa (by decide) rfl rfl (BRd.nil _ _ _) (BRd.nil _ _ _)
            have HHa := hide ((unhide HH9).below ka); have NXa := hide ((unhide NX9).below ka); have NYa := hide ((unhide NY9).below ka); have Xa := hide ((unhide X9).below ka); have Ya := hide ((unhide Y9).below ka)
            have Za := hide (Nat.le_trans (unhide Z9) ka.size)
            clear CB ka xx0 xx1 xx2 yy0 yy1 yy2 gf0 gf1 gf2 gc0 gc1 gc2
            go_wp2_with fail
            refine CQ.mono ?_
            rintro e wb ⟨rfl, kb⟩
            have HHb := (unhide HHa).below kb; have NXb := (unhide NXa).below kb; have NYb := (unhide NYa).below kb; have Xb := (unhide Xa).below kb; have Yb := (unhide Ya).below kb
            have zb := Nat.le_trans (unhide Za) kb.size
            clear CQ kb
            by_cases hE : E = 0
            · subst hE
              have HB2 := hide HHb; have NXB := hide NXb; have NYB := hide NYb; have XB := hide Xb; have YB := hide Yb; have ZB := hide zb
              clear HHb NXb NYb Xb Yb zb
              rw [show ((0 : Nat) : Int) = 0 from rfl]
              go_wp2_with fail
              have lw := (unhide HI0).1.lt; have lq := (unhide HI0).2.1.lt
              refine wp_leaves (fun a0 a' wd => ∃ wc, BuAt wd w.heap.size Y.now Y.ser (.slice a6 L6.length c6) ∧ BuAt wd (w.heap.size + 1) Y.now Y.ser (.slice a8 L8.length c8) ∧ Kept w.heap.size wb.drew wc ∧ Kept (w.heap.size + 1) wc wd ∧ a' = ((a0.put (some 138) (busV Y.now Y.ser (.slice a6 L6.length c6))).put (some 139) (busV Y.now Y.ser (.slice a8 L8.length c8)))) ?reg2 ?rest2
              case reg2 =>
                intro AA eA
                have b3 : AA.eval (.tmp 3) = .pointer (some ⟨w.heap.size, 0, none⟩) := by rw [eA]; rfl
                have b4 : AA.eval (.tmp 4) = .pointer (some ⟨w.heap.size + 1, 0, none⟩) := by rw [eA]; rfl
                have b9 : AA.eval (.tmp 9) = .pointer (some ⟨wr.heap.size + 1, 0, none⟩) := by rw [eA]; rfl
                have b10 : AA.eval (.tmp 10) = .pointer (some ⟨wr.heap.size + 1 + 1, 0, none⟩) := by rw [eA]; rfl
                have hs : 143 ≤ AA.tmps.size := by rw [eA]; exact of_decide_eq_true rfl
                clear eA
                have hS0 : BuAt wb.drew (wr.heap.size + 1) Y.now Y.ser (.slice a6 L6.length c6) ∧ BuAt wb.drew (wr.heap.size + 1 + 1) Y.now Y.ser (.slice a8 L8.length c8) := ⟨unhide XB, unhide YB⟩
                have hp : BuAt wb.drew w.heap.size b.now b.ser (.slice a L.length c) := (unhide HB2).1
                have hq : BuAt wb.drew (w.heap.size + 1) b.now b.ser (.slice a2 L2.length c2) := (unhide HB2).2.1
                refine region_I (S := fun W => BuAt W (wr.heap.size + 1) Y.now Y.ser (.slice a6 L6.length c6) ∧ BuAt W (wr.heap.size + 1 + 1) Y.now Y.ser (.slice a8 L8.length c8)) (.rd 0 (.rd 1 (.go 2 (.go 3 .fin)))) [] (by kernel_rfl) (by kernel_rfl) ?_
                refine sI_read (v := (busV Y.now Y.ser (.slice a6 L6.length c6))) rfl (fun _ _ _ h => absurd h.1 (fun e => nomatch e)) (wanted_rd rfl) hS0 (fun wx hx => run_lodU (.tmp 9) rfl b9 hx.1) ?_
                show SeqI _ _ _ _ _ _ (Act.put _ (some 138) _) _
                refine sI_read (v := (busV Y.now Y.ser (.slice a8 L8.length c8))) rfl (fun _ _ _ h => absurd h.1 (fun e => nomatch e)) (wanted_rd rfl) hS0 (fun wx hx => run_lodU (.tmp 10) rfl ((ev_other _ _ (by decide)).trans b10) hx.2) ?_
                show SeqI _ _ _ _ _ _ (Act.put _ (some 139) _) _
                refine sI_do rfl (wanted_rd rfl) (fun K hK => ?_)
                refine wp_storeU _ (.tmp 3) (.tmp 138) rfl ((ev_other _ _ (by decide)).trans ((ev_other _ _ (by decide)).trans b3)) ((ev_other _ _ (by decide)).trans (ev_same _ _ _ (by omega))) hp rfl ?_
                intro wc mc kc zc
                have hS1 : BuAt wc (wr.heap.size + 1) Y.now Y.ser (.slice a6 L6.length c6) ∧ BuAt wc (wr.heap.size + 1 + 1) Y.now Y.ser (.slice a8 L8.length c8) := ⟨hS0.1.kept kc (by omega), hS0.2.kept kc (by omega)⟩
                refine hK _ _ (fun _ => hS1) ?_
                clear hK K
                refine sI_do rfl (wanted_rd rfl) (fun K hK => ?_)
                refine wp_storeU _ (.tmp 4) (.tmp 139) rfl ((ev_other _ _ (by decide)).trans ((ev_other _ _ (by decide)).trans b4)) (ev_same _ _ _ (by simp only [sz_put]; omega)) (hq.kept kc (by omega)) rfl ?_
                intro wd md kd zd
                have hS2 : BuAt wd (wr.heap.size + 1) Y.now Y.ser (.slice a6 L6.length c6) ∧ BuAt wd (wr.heap.size + 1 + 1) Y.now Y.ser (.slice a8 L8.length c8) := ⟨hS1.1.kept kd (by omega), hS1.2.kept kd (by omega)⟩
                refine hK _ _ (fun _ => hS2) ?_
                clear hK K
                exact sI_end ⟨rfl, wc, mc.kept kd (by omega), md, kc, kd, rfl⟩
              case rest2 =>
                rintro a' wd ⟨wc, mp, mq, kc, kd, rfl⟩
                have HD2 : BpI w g Y a6 c6 L6 a8 c8 L8 wd := by
                  obtain ⟨r, hg⟩ := (unhide HB2).2.2.1
                  have hgg := (unhide HI0).2.2.2.2.2.2
                  have nx : BNew w5.heap.size wb.drew a6 c6 L6 := unhide NXB
                  have ny : BNew w7.heap.size wb.drew a8 c8 L8 := unhide NYB
                  have kb0 : Below w.heap.size w wb.drew := below_drew (unhide HB2).2.2.2.2.2.1
                  refine ⟨mp, mq, ⟨r, (show BuAt wb.drew g 0 1 r from hg).kept kc (by omega) |>.kept kd (by omega)⟩, ?_, ?_, below_of_kept (below_of_kept kb0 kc (by omega) kb0.size) kd (by omega) (below_of_kept kb0 kc (by omega) kb0.size).size, hgg⟩
                  · exact ((nx.kept kc (by have := unhide Z5; omega)).kept kd (by have := unhide Z5; omega)).1
                  · exact ((ny.kept kc (by have := unhide Z7; omega)).kept kd (by have := unhide Z7; omega)).1
                have HD3 := hide HD2
                clear HD2 mp mq kc kd
                go_frame
                go_wp2_with fail
                go_roundw
                case rel => exact ⟨i + 1, Y, a6, c6, L6, a8, c8, L8, by omega, by omega, by go_num, unhide HY, unhide TX, unhide TY, unhide HD3⟩
                case measure => simp [intOf] <;> omega
            · have hE' : ¬ ((E : Nat) : Int) = 0 := by omega
              have hEb : (((E : Nat) : Int) == 0) = false := by simp; omega
              have HB2 := hide HHb
              clear HHb NXb NYb Xb Yb zb
              go_wp2_with fail
              go_roundw
              case rel => exact ⟨i + 1, b, a, c, L, a2, c2, L2, by omega, by omega, by go_num, unhide HB, unhide T1, unhide T2, unhide HB2⟩
              case measure => simp [intOf] <;> omega
        · have h1' : (Kd == 1) = false := by simp [h1]
          by_cases h2 : Kd = 2
          · subst h2
            obtain ⟨Y, eY⟩ : ∃ Y, Y = stepS b A := ⟨_, rfl⟩
            obtain ⟨E, eE⟩ : ∃ E : Nat, E = stepE b.now A := ⟨_, rfl⟩
            have HY := hide (show BsOK Y by rw [eY]; exact stepS_ok (unhide HB) rA)
            have EY := hide eY; have EE := hide eE
            obtain ⟨Z, eZ⟩ : ∃ Z, Z = comeS b A := ⟨_, rfl⟩
            have hZ : Z.length ≤ 2513169434843 := by rw [eZ]; exact (comeS_ok (unhide HB)).2
            have EZ := hide eZ
            clear eZ
            clear eY eE
            have CP := hP b a c L A w5 (unhide HB) (unhide T1) (unhide HH).2.2.2.1 rA
            rw [← unhide EY, ← unhide EE, ← unhide EZ] at CP
            unfold busV at CP
            go_wp2_with fail
            rw [← unhide E5]
            refine CP.mono ?_
            rintro e w6 ⟨a6, c6, L6, pa, pc, PL, rfl, t6, n6, tp, np, k6⟩
            have J6 := k6
            have mx6 := (unhide MX).below k6
            have xf0 := mx6.free 0; have xf1 := mx6.free 1; have xf2 := mx6.free 2; have xc0 := mx6.cell0; have xc1 := mx6.cell1; have xc2 := mx6.cell2
            obtain ⟨w7, e7, m7, k7, z7⟩ := mx6.put Y.now Y.ser (.slice a6 L6.length c6)
            have E7 := hide e7
            clear CP mx6
            have n7 := n6.kept k7 (by have := unhide Z5; omega)
            have J7 := below_of_kept (J6.mono (show wr.heap.size ≤ w5.heap.size by have := unhide Z5; omega)) k7 (by omega) (by have := unhide Z5; have := J6.size; omega)
            have J07 := (unhide K5).trans J7
            have h7 := (unhide HI0).below J07
            have y7 := ((unhide MY).below J6).kept k7 (by omega)
            have d7 := ((unhide M5).below J6).kept k7 (by omega)
            obtain ⟨_, q1, q2, q3, q4⟩ := d7.zero
            dsimp only at q1 q2 q3
            have v0 := h7.2.1.cell0; have v1 := h7.2.1.cell1; have v2 := h7.2.1.cell2
            have yf0 := y7.free 0; have yf1 := y7.free 1; have yf2 := y7.free 2; have yc0 := y7.cell0; have yc1 := y7.cell1; have yc2 := y7.cell2
            have np7 := np.kept k7 (by have := unhide Z5; omega)
            have CR := refBusStep_ok b a2 c2 L2 A w7 (unhide HB) (unhide T2) h7.2.2.2.2.1 rA
            rw [← unhide EY, ← unhide EE, ← unhide EZ] at CR
            unfold busV at CR
            have HH7 := hide h7; have MX7 := hide m7; have MY7 := hide y7; have NX7 := hide n7; have J5 := hide J07; have TX := hide t6
            have Z7 := hide (show wr.heap.size + 1 + 1 + 1 ≤ w7.heap.size by have := unhide Z5; have := J6.size; omega)
            have NP7 := hide np7; have TP := hide tp
            clear h7 m7 y7 n7 J7 J07 J6 k7 z7 n6 t6 d7 np np7 tp
            rw [e7] at v0 v1 v2 q1 q2 q3 q4 yf0 yf1 yf2 yc0 yc1 yc2
            clear e7
            go_wp2_with fail
            rw [← unhide E7]
            clear xf0 xf1 xf2 xc0 xc1 xc2
            refine CR.mono ?_
            rintro e w8 ⟨a8, c8, L8, pa2, pc2, PL2, rfl, t8, n8, tp2, np2, k8⟩
            have my8 := (unhide MY7).below k8
            have gf0 := my8.free 0; have gf1 := my8.free 1; have gf2 := my8.free 2; have gc0 := my8.cell0; have gc1 := my8.cell1; have gc2 := my8.cell2
            obtain ⟨w9, e9, m9, k9, z9⟩ := my8.put Y.now Y.ser (.slice a8 L8.length c8)
            have E9 := hide e9
            have n9 := n8.kept k9 (by have := unhide Z7; omega)
            have nx9 := ((unhide NX7).below k8).kept k9 (by have := unhide Z5; omega)
            have x9 := ((unhide MX7).below k8).kept k9 (by omega)
            have J9 := below_of_kept ((unhide J5).trans (k8.mono (unhide J5).size)) k9 (by omega) (by have := (unhide J5).size; have := k8.size; omega)
            have h9 := (unhide HI0).below J9
            have np9 := hide (((unhide NP7).below k8).kept k9 (by have := unhide Z5; omega)).1; have nq9 := hide (np2.kept k9 (by have := unhide Z7; omega)).1; have TQ := hide tp2
            clear np2 tp2
            have CB := sameBus_any Y a6 c6 L6 a8 c8 L8 w9 (unhide HY) (unhide TX) t8 nx9.1 n9.1
            unfold busV at CB
            have xx0 := x9.cell0; have xx1 := x9.cell1; have xx2 := x9.cell2; have yy0 := m9.cell0; have yy1 := m9.cell1; have yy2 := m9.cell2
            have HH9 := hide h9; have NX9 := hide nx9; have NY9 := hide n9; have X9 := hide x9; have Y9 := hide m9; have TY := hide t8
            have Z9 := hide (show wr.heap.size + 1 + 1 + 1 ≤ w9.heap.size by have := unhide Z7; have := k8.size; omega)
            rw [e9] at xx0 xx1 xx2 yy0 yy1 yy2
            clear CR my8 e9 m9 k9 z9 n9 nx9 x9 J9 h9 k8 n8 t8 v0 v1 v2 q1 q2 q3 q4 yf0 yf1 yf2 yc0 yc1 yc2
            go_wp2_with fail
            rw [← unhide E9]
            refine CB.mono ?_
            rintro e wa ⟨rfl, ka⟩
            have CQ := sameParcels_any Z pa pc PL pa2 pc2 PL2 wa hZ (unhide TP) (unhide TQ) ((unhide np9).below ka) ((unhide nq9).below ka)
            have HHa := hide ((unhide HH9).below ka); have NXa := hide ((unhide NX9).below ka); have NYa := hide ((unhide NY9).below ka); have Xa := hide ((unhide X9).below ka); have Ya := hide ((unhide Y9).below ka)
            have Za := hide (Nat.le_trans (unhide Z9) ka.size)
            clear CB ka xx0 xx1 xx2 yy0 yy1 yy2 gf0 gf1 gf2 gc0 gc1 gc2
            go_wp2_with fail
            refine CQ.mono ?_
            rintro e wb ⟨rfl, kb⟩
            have HHb := (unhide HHa).below kb; have NXb := (unhide NXa).below kb; have NYb := (unhide NYa).below kb; have Xb := (unhide Xa).below kb; have Yb := (unhide Ya).below kb
            have zb := Nat.le_trans (unhide Za) kb.size
            clear CQ kb
            by_cases hE : E = 0
            · subst hE
              have HB2 := hide HHb; have NXB := hide NXb; have NYB := hide NYb; have XB := hide Xb; have YB := hide Yb; have ZB := hide zb
              clear HHb NXb NYb Xb Yb zb
              rw [show ((0 : Nat) : Int) = 0 from rfl]
              go_wp2_with fail
              have lw := (unhide HI0).1.lt; have lq := (unhide HI0).2.1.lt
              refine wp_leaves (fun a0 a' wd => ∃ wc, BuAt wd w.heap.size Y.now Y.ser (.slice a6 L6.length c6) ∧ BuAt wd (w.heap.size + 1) Y.now Y.ser (.slice a8 L8.length c8) ∧ Kept w.heap.size wb.drew wc ∧ Kept (w.heap.size + 1) wc wd ∧ a' = ((a0.put (some 138) (busV Y.now Y.ser (.slice a6 L6.length c6))).put (some 139) (busV Y.now Y.ser (.slice a8 L8.length c8)))) ?reg2 ?rest2
              case reg2 =>
                intro AA eA
                have b3 : AA.eval (.tmp 3) = .pointer (some ⟨w.heap.size, 0, none⟩) := by rw [eA]; rfl
                have b4 : AA.eval (.tmp 4) = .pointer (some ⟨w.heap.size + 1, 0, none⟩) := by rw [eA]; rfl
                have b9 : AA.eval (.tmp 9) = .pointer (some ⟨wr.heap.size + 1, 0, none⟩) := by rw [eA]; rfl
                have b10 : AA.eval (.tmp 10) = .pointer (some ⟨wr.heap.size + 1 + 1, 0, none⟩) := by rw [eA]; rfl
                have hs : 143 ≤ AA.tmps.size := by rw [eA]; exact of_decide_eq_true rfl
                clear eA
                have hS0 : BuAt wb.drew (wr.heap.size + 1) Y.now Y.ser (.slice a6 L6.length c6) ∧ BuAt wb.drew (wr.heap.size + 1 + 1) Y.now Y.ser (.slice a8 L8.length c8) := ⟨unhide XB, unhide YB⟩
                have hp : BuAt wb.drew w.heap.size b.now b.ser (.slice a L.length c) := (unhide HB2).1
                have hq : BuAt wb.drew (w.heap.size + 1) b.now b.ser (.slice a2 L2.length c2) := (unhide HB2).2.1
                refine region_I (S := fun W => BuAt W (wr.heap.size + 1) Y.now Y.ser (.slice a6 L6.length c6) ∧ BuAt W (wr.heap.size + 1 + 1) Y.now Y.ser (.slice a8 L8.length c8)) (.rd 0 (.rd 1 (.go 2 (.go 3 .fin)))) [] (by kernel_rfl) (by kernel_rfl) ?_
                refine sI_read (v := (busV Y.now Y.ser (.slice a6 L6.length c6))) rfl (fun _ _ _ h => absurd h.1 (fun e => nomatch e)) (wanted_rd rfl) hS0 (fun wx hx => run_lodU (.tmp 9) rfl b9 hx.1) ?_
                show SeqI _ _ _ _ _ _ (Act.put _ (some 138) _) _
                refine sI_read (v := (busV Y.now Y.ser (.slice a8 L8.length c8))) rfl (fun _ _ _ h => absurd h.1 (fun e => nomatch e)) (wanted_rd rfl) hS0 (fun wx hx => run_lodU (.tmp 10) rfl ((ev_other _ _ (by decide)).trans b10) hx.2) ?_
                show SeqI _ _ _ _ _ _ (Act.put _ (some 139) _) _
                refine sI_do rfl (wanted_rd rfl) (fun K hK => ?_)
                refine wp_storeU _ (.tmp 3) (.tmp 138) rfl ((ev_other _ _ (by decide)).trans ((ev_other _ _ (by decide)).trans b3)) ((ev_other _ _ (by decide)).trans (ev_same _ _ _ (by omega))) hp rfl ?_
                intro wc mc kc zc
                have hS1 : BuAt wc (wr.heap.size + 1) Y.now Y.ser (.slice a6 L6.length c6) ∧ BuAt wc (wr.heap.size + 1 + 1) Y.now Y.ser (.slice a8 L8.length c8) := ⟨hS0.1.kept kc (by omega), hS0.2.kept kc (by omega)⟩
                refine hK _ _ (fun _ => hS1) ?_
                clear hK K
                refine sI_do rfl (wanted_rd rfl) (fun K hK => ?_)
                refine wp_storeU _ (.tmp 4) (.tmp 139) rfl ((ev_other _ _ (by decide)).trans ((ev_other _ _ (by decide)).trans b4)) (ev_same _ _ _ (by simp only [sz_put]; omega)) (hq.kept kc (by omega)) rfl ?_
                intro wd md kd zd
                have hS2 : BuAt wd (wr.heap.size + 1) Y.now Y.ser (.slice a6 L6.length c6) ∧ BuAt wd (wr.heap.size + 1 + 1) Y.now Y.ser (.slice a8 L8.length c8) := ⟨hS1.1.kept kd (by omega), hS1.2.kept kd (by omega)⟩
                refine hK _ _ (fun _ => hS2) ?_
                clear hK K
                exact sI_end ⟨rfl, wc, mc.kept kd (by omega), md, kc, kd, rfl⟩
              case rest2 =>
                rintro a' wd ⟨wc, mp, mq, kc, kd, rfl⟩
                have HD2 : BpI w g Y a6 c6 L6 a8 c8 L8 wd := by
                  obtain ⟨r, hg⟩ := (unhide HB2).2.2.1
                  have hgg := (unhide HI0).2.2.2.2.2.2
                  have nx : BNew w5.heap.size wb.drew a6 c6 L6 := unhide NXB
                  have ny : BNew w7.heap.size wb.drew a8 c8 L8 := unhide NYB
                  have kb0 : Below w.heap.size w wb.drew := below_drew (unhide HB2).2.2.2.2.2.1
                  refine ⟨mp, mq, ⟨r, (show BuAt wb.drew g 0 1 r from hg).kept kc (by omega) |>.kept kd (by omega)⟩, ?_, ?_, below_of_kept (below_of_kept kb0 kc (by omega) kb0.size) kd (by omega) (below_of_kept kb0 kc (by omega) kb0.size).size, hgg⟩
                  · exact ((nx.kept kc (by have := unhide Z5; omega)).kept kd (by have := unhide Z5; omega)).1
                  · exact ((ny.kept kc (by have := unhide Z7; omega)).kept kd (by have := unhide Z7; omega)).1
                have HD3 := hide HD2
                clear HD2 mp mq kc kd
                go_frame
                go_wp2_with fail
                go_roundw
                case rel => exact ⟨i + 1, Y, a6, c6, L6, a8, c8, L8, by omega, by omega, by go_num, unhide HY, unhide TX, unhide TY, unhide HD3⟩
                case measure => simp [intOf] <;> omega
            · have hE' : ¬ ((E : Nat) : Int) = 0 := by omega
              have hEb : (((E : Nat) : Int) == 0) = false := by simp; omega
              have HB2 := hide HHb
              clear HHb NXb NYb Xb Yb zb
              go_wp2_with fail
              go_roundw
              case rel => exact ⟨i + 1, b, a, c, L, a2, c2, L2, by omega, by omega, by go_num, unhide HB, unhide T1, unhide T2, unhide HB2⟩
              case measure => simp [intOf] <;> omega
          · have h2' : (Kd == 2) = false := by simp [h2]
            by_cases h3 : Kd = 3
            · subst h3
              obtain ⟨Y, eY⟩ : ∃ Y, Y = loseS b A := ⟨_, rfl⟩
              obtain ⟨E, eE⟩ : ∃ E : Nat, E = loseE b A := ⟨_, rfl⟩
              have HY := hide (show BsOK Y by rw [eY]; exact loseS_ok (unhide HB))
              have EY := hide eY; have EE := hide eE
              clear eY eE
              have CP := hL b a c L A w5 (unhide HB) (unhide T1) (unhide HH).2.2.2.1 rA
              rw [← unhide EY, ← unhide EE] at CP
              unfold busV at CP
              go_wp2_with fail
              rw [← unhide E5]
              refine CP.mono ?_
              rintro e w6 ⟨a6, c6, L6, rfl, t6, n6, k6⟩
              have J6 := k6
              have mx6 := (unhide MX).below k6
              have xf0 := mx6.free 0; have xf1 := mx6.free 1; have xf2 := mx6.free 2; have xc0 := mx6.cell0; have xc1 := mx6.cell1; have xc2 := mx6.cell2
              obtain ⟨w7, e7, m7, k7, z7⟩ := mx6.put Y.now Y.ser (.slice a6 L6.length c6)
              have E7 := hide e7
              clear CP mx6
              have n7 := n6.kept k7 (by have := unhide Z5; omega)
              have J7 := below_of_kept (J6.mono (show wr.heap.size ≤ w5.heap.size by have := unhide Z5; omega)) k7 (by omega) (by have := unhide Z5; have := J6.size; omega)
              have J07 := (unhide K5).trans J7
              have h7 := (unhide HI0).below J07
              have y7 := ((unhide MY).below J6).kept k7 (by omega)
              have d7 := ((unhide M5).below J6).kept k7 (by omega)
              obtain ⟨_, q1, q2, q3, q4⟩ := d7.zero
              dsimp only at q1 q2 q3
              have v0 := h7.2.1.cell0; have v1 := h7.2.1.cell1; have v2 := h7.2.1.cell2
              have yf0 := y7.free 0; have yf1 := y7.free 1; have yf2 := y7.free 2; have yc0 := y7.cell0; have yc1 := y7.cell1; have yc2 := y7.cell2
              have CR := refLose_ok b a2 c2 L2 A w7 (unhide HB) (unhide T2) h7.2.2.2.2.1 rA
              rw [← unhide EY, ← unhide EE] at CR
              unfold busV at CR
              have HH7 := hide h7; have MX7 := hide m7; have MY7 := hide y7; have NX7 := hide n7; have J5 := hide J07; have TX := hide t6
              have Z7 := hide (show wr.heap.size + 1 + 1 + 1 ≤ w7.heap.size by have := unhide Z5; have := J6.size; omega)
              clear h7 m7 y7 n7 J7 J07 J6 k7 z7 n6 t6 d7
              rw [e7] at v0 v1 v2 q1 q2 q3 q4 yf0 yf1 yf2 yc0 yc1 yc2
              clear e7
              go_wp2_with fail
              rw [← unhide E7]
              clear xf0 xf1 xf2 xc0 xc1 xc2
              refine CR.mono ?_
              rintro e w8 ⟨a8, c8, L8, rfl, t8, n8, k8⟩
              have my8 := (unhide MY7).below k8
              have gf0 := my8.free 0; have gf1 := my8.free 1; have gf2 := my8.free 2; have gc0 := my8.cell0; have gc1 := my8.cell1; have gc2 := my8.cell2
              obtain ⟨w9, e9, m9, k9, z9⟩ := my8.put Y.now Y.ser (.slice a8 L8.length c8)
              have E9 := hide e9
              have n9 := n8.kept k9 (by have := unhide Z7; omega)
              have nx9 := ((unhide NX7).below k8).kept k9 (by have := unhide Z5; omega)
              have x9 := ((unhide MX7).below k8).kept k9 (by omega)
              have J9 := below_of_kept ((unhide J5).trans (k8.mono (unhide J5).size)) k9 (by omega) (by have := (unhide J5).size; have := k8.size; omega)
              have h9 := (unhide HI0).below J9
              have CB := sameBus_any Y a6 c6 L6 a8 c8 L8 w9 (unhide HY) (unhide TX) t8 nx9.1 n9.1
              unfold busV at CB
              have xx0 := x9.cell0; have xx1 := x9.cell1; have xx2 := x9.cell2; have yy0 := m9.cell0; have yy1 := m9.cell1; have yy2 := m9.cell2
              have HH9 := hide h9; have NX9 := hide nx9; have NY9 := hide n9; have X9 := hide x9; have Y9 := hide m9; have TY := hide t8
              have Z9 := hide (show wr.heap.size + 1 + 1 + 1 ≤ w9.heap.size by have := unhide Z7; have := k8.size; omega)
              rw [e9] at xx0 xx1 xx2 yy0 yy1 yy2
              clear CR my8 e9 m9 k9 z9 n9 nx9 x9 J9 h9 k8 n8 t8 v0 v1 v2 q1 q2 q3 q4 yf0 yf1 yf2 yc0 yc1 yc2
              go_wp2_with fail
              rw [← unhide E9]
              refine CB.mono ?_
              rintro e wa ⟨rfl, ka⟩
              have CQ := sameParcels_any [] none 0 [] none 0 [] wa (by decide) rfl rfl (BRd.nil _ _ _) (BRd.nil _ _ _)
              have HHa := hide ((unhide HH9).below ka); have NXa := hide ((unhide NX9).below ka); have NYa := hide ((unhide NY9).below ka); have Xa := hide ((unhide X9).below ka); have Ya := hide ((unhide Y9).below ka)
              have Za := hide (Nat.le_trans (unhide Z9) ka.size)
              clear CB ka xx0 xx1 xx2 yy0 yy1 yy2 gf0 gf1 gf2 gc0 gc1 gc2
              go_wp2_with fail
              refine CQ.mono ?_
              rintro e wb ⟨rfl, kb⟩
              have HHb := (unhide HHa).below kb; have NXb := (unhide NXa).below kb; have NYb := (unhide NYa).below kb; have Xb := (unhide Xa).below kb; have Yb := (unhide Ya).below kb
              have zb := Nat.le_trans (unhide Za) kb.size
              clear CQ kb
              by_cases hE : E = 0
              · subst hE
                have HB2 := hide HHb; have NXB := hide NXb; have NYB := hide NYb; have XB := hide Xb; have YB := hide Yb; have ZB := hide zb
                clear HHb NXb NYb Xb Yb zb
                rw [show ((0 : Nat) : Int) = 0 from rfl]
                go_wp2_with fail
                have lw := (unhide HI0).1.lt; have lq := (unhide HI0).2.1.lt
                refine wp_leaves (fun a0 a' wd => ∃ wc, BuAt wd w.heap.size Y.now Y.ser (.slice a6 L6.length c6) ∧ BuAt wd (w.heap.size + 1) Y.now Y.ser (.slice a8 L8.length c8) ∧ Kept w.heap.size wb.drew wc ∧ Kept (w.heap.size + 1) wc wd ∧ a' = ((a0.put (some 138) (busV Y.now Y.ser (.slice a6 L6.length c6))).put (some 139) (busV Y.now Y.ser (.slice a8 L8.length c8)))) ?reg2 ?rest2
                case reg2 =>
                  intro AA eA
                  have b3 : AA.eval (.tmp 3) = .pointer (some ⟨w.heap.size, 0, none⟩) := by rw [eA]; rfl
                  have b4 : AA.eval (.tmp 4) = .pointer (some ⟨w.heap.size + 1, 0, none⟩) := by rw [eA]; rfl
                  have b9 : AA.eval (.tmp 9) = .pointer (some ⟨wr.heap.size + 1, 0, none⟩) := by rw [eA]; rfl
                  have b10 : AA.eval (.tmp 10) = .pointer (some ⟨wr.heap.size + 1 + 1, 0, none⟩) := by rw [eA]; rfl
                  have hs : 143 ≤ AA.tmps.size := by rw [eA]; exact of_decide_eq_true rfl
                  clear eA
                  have hS0 : BuAt wb.drew (wr.heap.size + 1) Y.now Y.ser (.slice a6 L6.length c6) ∧ BuAt wb.drew (wr.heap.size + 1 + 1) Y.now Y.ser (.slice a8 L8.length c8) := ⟨unhide XB, unhide YB⟩
                  have hp : BuAt wb.drew w.heap.size b.now b.ser (.slice a L.length c) := (unhide HB2).1
                  have hq : BuAt wb.drew (w.heap.size + 1) b.now b.ser (.slice a2 L2.length c2) := (unhide HB2).2.1
                  refine region_I (S := fun W => BuAt W (wr.heap.size + 1) Y.now Y.ser (.slice a6 L6.length c6) ∧ BuAt W (wr.heap.size + 1 + 1) Y.now Y.ser (.slice a8 L8.length c8)) (.rd 0 (.rd 1 (.go 2 (.go 3 .fin)))) [] (by kernel_rfl) (by kernel_rfl) ?_
                  refine sI_read (v := (busV Y.now Y.ser (.slice a6 L6.length c6))) rfl (fun _ _ _ h => absurd h.1 (fun e => nomatch e)) (wanted_rd rfl) hS0 (fun wx hx => run_lodU (.tmp 9) rfl b9 hx.1) ?_
                  show SeqI _ _ _ _ _ _ (Act.put _ (some 138) _) _
                  refine sI_read (v := (busV Y.now Y.ser (.slice a8 L8.length c8))) rfl (fun _ _ _ h => absurd h.1 (fun e => nomatch e)) (wanted_rd rfl) hS0 (fun wx hx => run_lodU (.tmp 10) rfl ((ev_other _ _ (by decide)).trans b10) hx.2) ?_
                  show SeqI _ _ _ _ _ _ (Act.put _ (some 139) _) _
                  refine sI_do rfl (wanted_rd rfl) (fun K hK => ?_)
                  refine wp_storeU _ (.tmp 3) (.tmp 138) rfl ((ev_other _ _ (by decide)).trans ((ev_other _ _ (by decide)).trans b3)) ((ev_other _ _ (by decide)).trans (ev_same _ _ _ (by omega))) hp rfl ?_
                  intro wc mc kc zc
                  have hS1 : BuAt wc (wr.heap.size + 1) Y.now Y.ser (.slice a6 L6.length c6) ∧ BuAt wc (wr.heap.size + 1 + 1) Y.now Y.ser (.slice a8 L8.length c8) := ⟨hS0.1.kept kc (by omega), hS0.2.kept kc (by omega)⟩
                  refine hK _ _ (fun _ => hS1) ?_
                  clear hK K
                  refine sI_do rfl (wanted_rd rfl) (fun K hK => ?_)
                  refine wp_storeU _ (.tmp 4) (.tmp 139) rfl ((ev_other _ _ (by decide)).trans ((ev_other _ _ (by decide)).trans b4)) (ev_same _ _ _ (by simp only [sz_put]; omega)) (hq.kept kc (by omega)) rfl ?_
                  intro wd md kd zd
                  have hS2 : BuAt wd (wr.heap.size + 1) Y.now Y.ser (.slice a6 L6.length c6) ∧ BuAt wd (wr.heap.size + 1 + 1) Y.now Y.ser (.slice a8 L8.length c8) := ⟨hS1.1.kept kd (by omega), hS1.2.kept kd (by omega)⟩
                  refine hK _ _ (fun _ => hS2) ?_
                  clear hK K
                  exact sI_end ⟨rfl, wc, mc.kept kd (by omega), md, kc, kd, rfl⟩
                case rest2 =>
                  rintro a' wd ⟨wc, mp, mq, kc, kd, rfl⟩
                  have HD2 : BpI w g Y a6 c6 L6 a8 c8 L8 wd := by
                    obtain ⟨r, hg⟩ := (unhide HB2).2.2.1
                    have hgg := (unhide HI0).2.2.2.2.2.2
                    have nx : BNew w5.heap.size wb.drew a6 c6 L6 := unhide NXB
                    have ny : BNew w7.heap.size wb.drew a8 c8 L8 := unhide NYB
                    have kb0 : Below w.heap.size w wb.drew := below_drew (unhide HB2).2.2.2.2.2.1
                    refine ⟨mp, mq, ⟨r, (show BuAt wb.drew g 0 1 r from hg).kept kc (by omega) |>.kept kd (by omega)⟩, ?_, ?_, below_of_kept (below_of_kept kb0 kc (by omega) kb0.size) kd (by omega) (below_of_kept kb0 kc (by omega) kb0.size).size, hgg⟩
                    · exact ((nx.kept kc (by have := unhide Z5; omega)).kept kd (by have := unhide Z5; omega)).1
                    · exact ((ny.kept kc (by have := unhide Z7; omega)).kept kd (by have := unhide Z7; omega)).1
                  have HD3 := hide HD2
                  clear HD2 mp mq kc kd
                  go_frame
                  go_wp2_with fail
                  go_roundw
                  case rel => exact ⟨i + 1, Y, a6, c6, L6, a8, c8, L8, by omega, by omega, by go_num, unhide HY, unhide TX, unhide TY, unhide HD3⟩
                  case measure => simp [intOf] <;> omega
              · have hE' : ¬ ((E : Nat) : Int) = 0 := by omega
                have hEb : (((E : Nat) : Int) == 0) = false := by simp; omega
                have HB2 := hide HHb
                clear HHb NXb NYb Xb Yb zb
                go_wp2_with fail
                go_roundw
                case rel => exact ⟨i + 1, b, a, c, L, a2, c2, L2, by omega, by omega, by go_num, unhide HB, unhide T1, unhide T2, unhide HB2⟩
                case measure => simp [intOf] <;> omega
            · have h3' : (Kd == 3) = false := by simp [h3]
              obtain ⟨Y, eY⟩ : ∃ Y, Y = turnS b A B G := ⟨_, rfl⟩
              obtain ⟨E, eE⟩ : ∃ E : Nat, E = turnE b A B G := ⟨_, rfl⟩
              have HY := hide (show BsOK Y by rw [eY]; exact turnS_ok (unhide HB))
              have EY := hide eY; have EE := hide eE
              clear eY eE
              have CP := hU b a c L A B G w5 (unhide HB) (unhide T1) (unhide HH).2.2.2.1 rA rB rG
              rw [← unhide EY, ← unhide EE] at CP
              unfold busV at CP
              go_wp2_with fail
              rw [← unhide E5]
              refine CP.mono ?_
              rintro e w6 ⟨a6, c6, L6, rfl, t6, n6, k6⟩
              have J6 := k6
              have mx6 := (unhide MX).below k6
              have xf0 := mx6.free 0; have xf1 := mx6.free 1; have xf2 := mx6.free 2; have xc0 := mx6.cell0; have xc1 := mx6.cell1; have xc2 := mx6.cell2
              obtain ⟨w7, e7, m7, k7, z7⟩ := mx6.put Y.now Y.ser (.slice a6 L6.length c6)
              have E7 := hide e7
              clear CP mx6
              have n7 := n6.kept k7 (by have := unhide Z5; omega)
              have J7 := below_of_kept (J6.mono (show wr.heap.size ≤ w5.heap.size by have := unhide Z5; omega)) k7 (by omega) (by have := unhide Z5; have := J6.size; omega)
              have J07 := (unhide K5).trans J7
              have h7 := (unhide HI0).below J07
              have y7 := ((unhide MY).below J6).kept k7 (by omega)
              have d7 := ((unhide M5).below J6).kept k7 (by omega)
              obtain ⟨_, q1, q2, q3, q4⟩ := d7.zero
              dsimp only at q1 q2 q3
              have v0 := h7.2.1.cell0; have v1 := h7.2.1.cell1; have v2 := h7.2.1.cell2
              have yf0 := y7.free 0; have yf1 := y7.free 1; have yf2 := y7.free 2; have yc0 := y7.cell0; have yc1 := y7.cell1; have yc2 := y7.cell2
              have CR := refTurn_ok b a2 c2 L2 A B G w7 (unhide HB) (unhide T2) h7.2.2.2.2.1 rA rB rG
              rw [← unhide EY, ← unhide EE] at CR
              unfold busV at CR
              have HH7 := hide h7; have MX7 := hide m7; have MY7 := hide y7; have NX7 := hide n7; have J5 := hide J07; have TX := hide t6
              have Z7 := hide (show wr.heap.size + 1 + 1 + 1 ≤ w7.heap.size by have := unhide Z5; have := J6.size; omega)
              clear h7 m7 y7 n7 J7 J07 J6 k7 z7 n6 t6 d7
              rw [e7] at v0 v1 v2 q1 q2 q3 q4 yf0 yf1 yf2 yc0 yc1 yc2
              clear e7
              go_wp2_with fail
              rw [← unhide E7]
              clear xf0 xf1 xf2 xc0 xc1 xc2
              refine CR.mono ?_
              rintro e w8 ⟨a8, c8, L8, rfl, t8, n8, k8⟩
              have my8 := (unhide MY7).below k8
              have gf0 := my8.free 0; have gf1 := my8.free 1; have gf2 := my8.free 2; have gc0 := my8.cell0; have gc1 := my8.cell1; have gc2 := my8.cell2
              obtain ⟨w9, e9, m9, k9, z9⟩ := my8.put Y.now Y.ser (.slice a8 L8.length c8)
              have E9 := hide e9
              have n9 := n8.kept k9 (by have := unhide Z7; omega)
              have nx9 := ((unhide NX7).below k8).kept k9 (by have := unhide Z5; omega)
              have x9 := ((unhide MX7).below k8).kept k9 (by omega)
              have J9 := below_of_kept ((unhide J5).trans (k8.mono (unhide J5).size)) k9 (by omega) (by have := (unhide J5).size; have := k8.size; omega)
              have h9 := (unhide HI0).below J9
              have CB := sameBus_any Y a6 c6 L6 a8 c8 L8 w9 (unhide HY) (unhide TX) t8 nx9.1 n9.1
              unfold busV at CB
              have xx0 := x9.cell0; have xx1 := x9.cell1; have xx2 := x9.cell2; have yy0 := m9.cell0; have yy1 := m9.cell1; have yy2 := m9.cell2
              have HH9 := hide h9; have NX9 := hide nx9; have NY9 := hide n9; have X9 := hide x9; have Y9 := hide m9; have TY := hide t8
              have Z9 := hide (show wr.heap.size + 1 + 1 + 1 ≤ w9.heap.size by have := unhide Z7; have := k8.size; omega)
              rw [e9] at xx0 xx1 xx2 yy0 yy1 yy2
              clear CR my8 e9 m9 k9 z9 n9 nx9 x9 J9 h9 k8 n8 t8 v0 v1 v2 q1 q2 q3 q4 yf0 yf1 yf2 yc0 yc1 yc2
              go_wp2_with fail
              rw [← unhide E9]
              refine CB.mono ?_
              rintro e wa ⟨rfl, ka⟩
              have CQ := sameParcels_any [] none 0 [] none 0 [] wa (by decide) rfl rfl (BRd.nil _ _ _) (BRd.nil _ _ _)
              have HHa := hide ((unhide HH9).below ka); have NXa := hide ((unhide NX9).below ka); have NYa := hide ((unhide NY9).below ka); have Xa := hide ((unhide X9).below ka); have Ya := hide ((unhide Y9).below ka)
              have Za := hide (Nat.le_trans (unhide Z9) ka.size)
              clear CB ka xx0 xx1 xx2 yy0 yy1 yy2 gf0 gf1 gf2 gc0 gc1 gc2
              go_wp2_with fail
              refine CQ.mono ?_
              rintro e wb ⟨rfl, kb⟩
              have HHb := (unhide HHa).below kb; have NXb := (unhide NXa).below kb; have NYb := (unhide NYa).below kb; have Xb := (unhide Xa).below kb; have Yb := (unhide Ya).below kb
              have zb := Nat.le_trans (unhide Za) kb.size
              clear CQ kb
              by_cases hE : E = 0
              · subst hE
                have HB2 := hide HHb; have NXB := hide NXb; have NYB := hide NYb; have XB := hide Xb; have YB := hide Yb; have ZB := hide zb
                clear HHb NXb NYb Xb Yb zb
                rw [show ((0 : Nat) : Int) = 0 from rfl]
                go_wp2_with fail
                have lw := (unhide HI0).1.lt; have lq := (unhide HI0).2.1.lt
                refine wp_leaves (fun a0 a' wd => ∃ wc, BuAt wd w.heap.size Y.now Y.ser (.slice a6 L6.length c6) ∧ BuAt wd (w.heap.size + 1) Y.now Y.ser (.slice a8 L8.length c8) ∧ Kept w.heap.size wb.drew wc ∧ Kept (w.heap.size + 1) wc wd ∧ a' = ((a0.put (some 138) (busV Y.now Y.ser (.slice a6 L6.length c6))).put (some 139) (busV Y.now Y.ser (.slice a8 L8.length c8)))) ?reg2 ?rest2
                case reg2 =>
                  intro AA eA
                  have b3 : AA.eval (.tmp 3) = .pointer (some ⟨w.heap.size, 0, none⟩) := by rw [eA]; rfl
                  have b4 : AA.eval (.tmp 4) = .pointer (some ⟨w.heap.size + 1, 0, none⟩) := by rw [eA]; rfl
                  have b9 : AA.eval (.tmp 9) = .pointer (some ⟨wr.heap.size + 1, 0, none⟩) := by rw [eA]; rfl
                  have b10 : AA.eval (.tmp 10) = .pointer (some ⟨wr.heap.size + 1 + 1, 0, none⟩) := by rw [eA]; rfl
                  have hs : 143 ≤ AA.tmps.size := by rw [eA]; exact of_decide_eq_true rfl
                  clear eA
                  have hS0 : BuAt wb.drew (wr.heap.size + 1) Y.now Y.ser (.slice a6 L6.length c6) ∧ BuAt wb.drew (wr.heap.size + 1 + 1) Y.now Y.ser (.slice a8 L8.length c8) := ⟨unhide XB, unhide YB⟩
                  have hp : BuAt wb.drew w.heap.size b.now b.ser (.slice a L.length c) := (unhide HB2).1
                  have hq : BuAt wb.drew (w.heap.size + 1) b.now b.ser (.slice a2 L2.length c2) := (unhide HB2).2.1
                  refine region_I (S := fun W => BuAt W (wr.heap.size + 1) Y.now Y.ser (.slice a6 L6.length c6) ∧ BuAt W (wr.heap.size + 1 + 1) Y.now Y.ser (.slice a8 L8.length c8)) (.rd 0 (.rd 1 (.go 2 (.go 3 .fin)))) [] (by kernel_rfl) (by kernel_rfl) ?_
                  refine sI_read (v := (busV Y.now Y.ser (.slice a6 L6.length c6))) rfl (fun _ _ _ h => absurd h.1 (fun e => nomatch e)) (wanted_rd rfl) hS0 (fun wx hx => run_lodU (.tmp 9) rfl b9 hx.1) ?_
                  show SeqI _ _ _ _ _ _ (Act.put _ (some 138) _) _
                  refine sI_read (v := (busV Y.now Y.ser (.slice a8 L8.length c8))) rfl (fun _ _ _ h => absurd h.1 (fun e => nomatch e)) (wanted_rd rfl) hS0 (fun wx hx => run_lodU (.tmp 10) rfl ((ev_other _ _ (by decide)).trans b10) hx.2) ?_
                  show SeqI _ _ _ _ _ _ (Act.put _ (some 139) _) _
                  refine sI_do rfl (wanted_rd rfl) (fun K hK => ?_)
                  refine wp_storeU _ (.tmp 3) (.tmp 138) rfl ((ev_other _ _ (by decide)).trans ((ev_other _ _ (by decide)).trans b3)) ((ev_other _ _ (by decide)).trans (ev_same _ _ _ (by omega))) hp rfl ?_
                  intro wc mc kc zc
                  have hS1 : BuAt wc (wr.heap.size + 1) Y.now Y.ser (.slice a6 L6.length c6) ∧ BuAt wc (wr.heap.size + 1 + 1) Y.now Y.ser (.slice a8 L8.length c8) := ⟨hS0.1.kept kc (by omega), hS0.2.kept kc (by omega)⟩
                  refine hK _ _ (fun _ => hS1) ?_
                  clear hK K
                  refine sI_do rfl (wanted_rd rfl) (fun K hK => ?_)
                  refine wp_storeU _ (.tmp 4) (.tmp 139) rfl ((ev_other _ _ (by decide)).trans ((ev_other _ _ (by decide)).trans b4)) (ev_same _ _ _ (by simp only [sz_put]; omega)) (hq.kept kc (by omega)) rfl ?_
                  intro wd md kd zd
                  have hS2 : BuAt wd (wr.heap.size + 1) Y.now Y.ser (.slice a6 L6.length c6) ∧ BuAt wd (wr.heap.size + 1 + 1) Y.now Y.ser (.slice a8 L8.length c8) := ⟨hS1.1.kept kd (by omega), hS1.2.kept kd (by omega)⟩
                  refine hK _ _ (fun _ => hS2) ?_
                  clear hK K
                  exact sI_end ⟨rfl, wc, mc.kept kd (by omega), md, kc, kd, rfl⟩
                case rest2 =>
                  rintro a' wd ⟨wc, mp, mq, kc, kd, rfl⟩
                  have HD2 : BpI w g Y a6 c6 L6 a8 c8 L8 wd := by
                    obtain ⟨r, hg⟩ := (unhide HB2).2.2.1
                    have hgg := (unhide HI0).2.2.2.2.2.2
                    have nx : BNew w5.heap.size wb.drew a6 c6 L6 := unhide NXB
                    have ny : BNew w7.heap.size wb.drew a8 c8 L8 := unhide NYB
                    have kb0 : Below w.heap.size w wb.drew := below_drew (unhide HB2).2.2.2.2.2.1
                    refine ⟨mp, mq, ⟨r, (show BuAt wb.drew g 0 1 r from hg).kept kc (by omega) |>.kept kd (by omega)⟩, ?_, ?_, below_of_kept (below_of_kept kb0 kc (by omega) kb0.size) kd (by omega) (below_of_kept kb0 kc (by omega) kb0.size).size, hgg⟩
                    · exact ((nx.kept kc (by have := unhide Z5; omega)).kept kd (by have := unhide Z5; omega)).1
                    · exact ((ny.kept kc (by have := unhide Z7; omega)).kept kd (by have := unhide Z7; omega)).1
                  have HD3 := hide HD2
                  clear HD2 mp mq kc kd
                  go_frame
                  go_wp2_with fail
                  go_roundw
                  case rel => exact ⟨i + 1, Y, a6, c6, L6, a8, c8, L8, by omega, by omega, by go_num, unhide HY, unhide TX, unhide TY, unhide HD3⟩
                  case measure => simp [intOf] <;> omega
              · have hE' : ¬ ((E : Nat) : Int) = 0 := by omega
                have hEb : (((E : Nat) : Int) == 0) = false := by simp; omega
                have HB2 := hide HHb
                clear HHb NXb NYb Xb Yb zb
                go_wp2_with fail
                go_roundw
                case rel => exact ⟨i + 1, b, a, c, L, a2, c2, L2, by omega, by omega, by go_num, unhide HB, unhide T1, unhide T2, unhide HB2⟩
                case measure => simp [intOf] <;> omega
      · have h200' : ¬ (i : Int) < 200 := by omega
        obtain ⟨r, hg⟩ := hI.2.2.1
        have c1 := hg.cell1
        have KK := hide hI.2.2.2.2.2.1
        clear hI hg hb t1 t2
        go_wp2_with fail
        go_ret
        exact ⟨rfl, unhide KK⟩
    · have hin' : ¬ (i : Int) < (D.length : Nat) := by omega
      obtain ⟨r, hg⟩ := hI.2.2.1
      have c1 := hg.cell1
      have KK := hide hI.2.2.2.2.2.1
      clear hI hg hb t1 t2
      go_wp2_with fail
      go_ret
      exact ⟨rfl, unhide KK⟩

end Go.Proofs.Ythjeedlhlkggkaa
