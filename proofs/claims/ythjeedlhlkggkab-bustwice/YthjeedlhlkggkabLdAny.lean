/- Contracts of the statements' own: loaded, runs. -/
import Derived.Test.YthjeedlhlkggkabBusLd
import Derived.Test.YthjeedlhlkggkabRefBus3
namespace Go.Proofs.Ythjeedlhlkggkab
open Go.RowKit

theorem enter_send (p q r s t : Value) (w : World) : (callFunc 12 #[p, q, r, s, t]).run Try.prog w = .ok (.enter 12 #[p, q, r, s, t]) w := by go_simp
theorem LdAt.kept {w w' : World} {b o z : Nat} {l : Ld} (h : LdAt w b o l) (k : Kept z w w') (hz : b ≠ z) : LdAt w' b o l := ⟨at_kept h.1 k hz, at_kept h.2.1 k hz, at_kept h.2.2.1 k hz, at_kept h.2.2.2 k hz⟩
theorem own_some' {w : World} {t : TypeId} {B n cap s : Nat} {ao : Option Addr} {xs : List Value} (h : w.ownsRow B t s (.slice ao n cap) n xs) (hn : 0 < n) : ∃ g, ao = some ⟨g, 0, none⟩ := by
  rcases h.2 with ⟨_, h0⟩ | ⟨g, c, cur, e, _⟩
  · omega
  · cases e; exact ⟨g, rfl⟩
theorem own_srB {w : World} {B : Nat} {ao : Option Addr} {n cap : Nat} {f : Nat → Value} (h : w.ownsRow B 5 1 (.slice ao n cap) n (rowV f n)) : Sr w ao n cap f := by obtain ⟨_, _, e, h, _⟩ := owns_sr h; cases e; exact h
/-- What lies in memory while a bus is loaded. -/
def LoI (w : World) (D : List Ld) (k : Nat) (a : Option Addr) (c : Nat) (L : List Lp) (W : World) : Prop :=
  BuAt W w.heap.size 0 0 (.slice none 0 0) ∧ BuAt W (w.heap.size + 1) 0 (k : Nat) (.slice a L.length c) ∧ BNew (w.heap.size + 1 + 1) W a c L ∧ These L (ldQ D k) ∧ Below w.heap.size w W
theorem LoI.below {w W W' : World} {D : List Ld} {k c : Nat} {a : Option Addr} {L : List Lp} (h : LoI w D k a c L W) (j : Below W.heap.size W W') : LoI w D k a c L W' :=
  ⟨h.1.below j, h.2.1.below j, h.2.2.1.below j, h.2.2.2.1, h.2.2.2.2.trans (j.mono h.2.2.2.2.size)⟩

set_option maxRecDepth 100000 in
set_option maxHeartbeats 8000000 in
theorem loaded_any (hS : SeOK 12) (ao : Option Addr) (cap : Nat) (D : List Ld) (w : World) (hD : ∀ l, l ∈ D → LdOK l) (hr : LRd w ao D) (hlen : D.length ≤ 9223372036854775807) (kk : Nat) (hkk : kk = min D.length 100) :
    Calls Try.prog 5 #[.slice ao D.length cap] w fun e w' => ∃ (a : Option Addr) (c : Nat) (L : List Lp), e = .returned (.tuple #[busV 0 (kk : Nat) (.slice a L.length c), .bool true]) ∧ These L (ldQ D kk) ∧ BRd w' a c L ∧ Below w.heap.size w w' := by
  obtain ⟨w1, e1, m1, m2, k1, s1⟩ := bu_two w 0 0 (.slice none 0 0) (.slice none 0 0)
  have H1 := hide (show LoI w D 0 none 0 [] w1 from ⟨m1, m2, bnew_nil _ _, rfl, k1⟩)
  have E1 := hide e1; have HD := hide hD; have HR := hide hr
  have HKK := hide hkk
  clear e1 m1 m2 k1 s1 hD hr hkk
  go_enter Try.func5, Try.ntmps5
  go_wp2_with fail
  rw [← unhide E1]
  go_loopw [5] (fun is wr => ∃ (k : Nat) (a : Option Addr) (c : Nat) (L : List Lp), k ≤ D.length ∧ k ≤ 100 ∧ is = .int .i64 (k : Nat) ∧ LoI w D k a c L wr) (fun is _ => 100 - (intOf is).toNat)
  case atStart => exact ⟨0, none, 0, [], Nat.zero_le _, Nat.zero_le _, rfl, unhide H1⟩
  case round =>
    obtain ⟨k, a, c, L, hk, hk2, rfl, hI⟩ := hrel
    rename World => wr
    by_cases hin : k < D.length
    · have hin' : (k : Int) < (D.length : Nat) := by omega
      by_cases h100 : k < 100
      · have h100' : (k : Int) < 100 := by omega
        have hc := List.getElem?_eq_getElem hin
        obtain ⟨l, el⟩ : ∃ l, l = D[k] := ⟨_, rfl⟩
        rw [← el] at hc
        have RR := (unhide HR).below hI.2.2.2.2
        obtain ⟨x, o, rfl, hq⟩ := RR.1 (by omega)
        have hl := hq k l hc
        have sr := RR.2 l (List.mem_of_getElem? hc)
        obtain ⟨rf, rto, rdl, h256, hdl⟩ := unhide HD l (List.mem_of_getElem? hc)
        have SN := hide (ldSend h100 hc)
        have BO := hide (ldQ_ok (D := D) (k := k) hk (fun l hl => (unhide HD l hl).2.2.2.1) hk2)
        obtain ⟨fr, to, dl, ds, ba, bc⟩ := l
        obtain ⟨p0, p1, p2, p3⟩ := hl
        dsimp only at p0 p1 p2 p3 sr rf rto rdl h256 hdl SN
        obtain ⟨F, eF⟩ : ∃ F, F = spF fr 4 := ⟨_, rfl⟩
        obtain ⟨T, eT⟩ : ∃ T, T = spF to 3 := ⟨_, rfl⟩
        obtain ⟨E, eD⟩ : ∃ E, E = spF dl 1001 := ⟨_, rfl⟩
        have hF : F < 4 := by have := spF_lt fr (n := 4) (by omega); omega
        have hT : T < 3 := by have := spF_lt to (n := 3) (by omega); omega
        have hE : E < 1001 := by have := spF_lt dl (n := 1001) (by omega); omega
        have EF := hide eF; have ET := hide eT; have ED := hide eD
        rw [← eF, ← eT, ← eD] at SN
        have LW0 := hide (show LdAt wr x (o + k * 4) ⟨fr, to, dl, ds, ba, bc⟩ from ⟨p0, p1, p2, p3⟩)
        have HI := hide hI; have TL := hide hI.2.2.2.1
        have D256 := hide (show ∀ y, y ∈ ds.take 220 → y < 256 from fun y hy => h256 y (List.mem_of_mem_take hy))
        have SR := hide sr.1
        have hd2 : (ds.take 220).length ≤ 140737488351232 := by rw [List.length_take]; omega
        have HD2 := hide hd2
        clear hc el RR hq sr hI eF eT eD h256 hd2
        go_wp2_with fail
        refine (spF_any fr 4 (by omega) (by omega) _).mono ?_
        rw [← unhide EF]
        rintro e w2 ⟨rfl, hw2⟩
        obtain rfl : w2 = wr := hw2
        go_wp2_with fail
        refine (keepBytes_any ba ds.length bc (gF ds) _ (unhide SR) hdl).mono ?_
        rintro e W ⟨da, dc, rfl, hdc0, o3, k3⟩
        have hd2 := unhide HD2
        have HW := hide ((unhide HI).below k3); have LW := hide ((unhide LW0).below k3)
        have OW := hide o3
        clear o3 k3 p0 p1 p2 p3
        by_cases hl2 : 220 < ds.length
        · have hl2' : (220 : Int) < (ds.length : Nat) := by omega
          have et : (ds.take 220).length = 220 := by rw [List.length_take]; omega
          obtain ⟨gb, rfl⟩ := own_some' (unhide OW) (by omega)
          have SW := hide (show Sr W (some ⟨gb, 0, none⟩) (ds.take 220).length dc (bF (gF (ds.take 220))) from ((own_srB (unhide OW)).less (k := (ds.take 220).length) (by omega)).congr (fun i hi => by unfold bF; rw [gF_take (by omega)]))
          have hdc : (ds.take 220).length ≤ dc := by omega
          have hdc1 : (220 : Int) ≤ (dc : Nat) := by omega
          obtain ⟨da, eda⟩ : ∃ da, da = some (⟨gb, 0, none⟩ : Addr) := ⟨_, rfl⟩
          go_wp2_with fail
          rw [← eda] at SW ⊢
          have ET2 := hide et
          clear et eda OW
          refine wp_leaves (fun a0 a' w' => ∃ (a6 : Option Addr) (c6 : Nat) (L6 : List Lp) (g8 : Nat), These L6 (ldQ D (k + 1)) ∧ BNew W.heap.size w' a6 c6 L6 ∧ BuAt w' g8 0 (k + 1 : Nat) (.slice a6 L6.length c6) ∧ Below W.heap.size W w' ∧ W.heap.size ≤ g8 ∧ a' = (((((((((((((((((((((((((a0.put (some 38) (busV 0 (k : Nat) (.slice a L.length c))).put (some 39) (.int .i64 (F : Nat))).put (some 40) (.int .i64 (F : Nat))).put (some 41) (.int .i64 (F + 1 : Nat))).put (some 42) (.slice (some ⟨x, o, none⟩) D.length cap)).put (some 43) (.int .i64 (k : Nat))).put (some 44) (.pointer (some ⟨x, o + k * 4, none⟩))).put (some 45) (.pointer (some ⟨x, o + k * 4 + 1, none⟩))).put (some 46) (.int .i64 to)).put (some 50) (.slice da (ds.take 220).length dc)).put (some 51) (.slice (some ⟨x, o, none⟩) D.length cap)).put (some 52) (.int .i64 (k : Nat))).put (some 53) (.pointer (some ⟨x, o + k * 4, none⟩))).put (some 54) (.pointer (some ⟨x, o + k * 4 + 2, none⟩))).put (some 55) (.int .i64 dl)).put (some 8) (.pointer (some ⟨g8, 0, none⟩))).put (some 47) (.int .i64 (T : Nat))).put (some 48) (.int .i64 (F + 1 + T : Nat))).put (some 49) (.int .i64 ((F + 1 + T) % 4 : Nat))).put (some 56) (.int .i64 (E : Nat))).put (some 57) (.tuple #[busV 0 (k + 1 : Nat) (.slice a6 L6.length c6), .int .i64 0])).put (some 37) (.tuple #[busV 0 (k + 1 : Nat) (.slice a6 L6.length c6), .int .i64 0])).put (some 58) (busV 0 (k + 1 : Nat) (.slice a6 L6.length c6))).put (some 59) (.int .i64 0)).put (some 9) (.int .i64 0))) ?reg ?rest
          case reg =>
            intro A eA
            have b0 : A.eval (.tmp 0) = .slice (some ⟨x, o, none⟩) D.length cap := by rw [eA]; rfl
            have b4 : A.eval (.tmp 4) = .pointer (some ⟨w.heap.size + 1, 0, none⟩) := by rw [eA]; rfl
            have b5 : A.eval (.tmp 5) = .int .i64 (k : Nat) := by rw [eA]; rfl
            have b6 : A.eval (.tmp 6) = .int .i64 (F : Nat) := by rw [eA]; rfl
            have b7 : A.eval (.tmp 7) = .slice da (ds.take 220).length dc := by rw [eA]; rw [unhide ET2]; rfl
            have hs : 80 ≤ A.tmps.size := by rw [eA]; exact of_decide_eq_true rfl
            clear eA
            have h0 : BuAt W.drew (w.heap.size + 1) 0 (k : Nat) (.slice a L.length c) ∧ LdAt W.drew x (o + k * 4) ⟨fr, to, dl, ds, ba, bc⟩ := ⟨(unhide HW).2.1, unhide LW⟩
            have hSr : Sr W.drew da (ds.take 220).length dc (bF (gF (ds.take 220))) := unhide SW
            have hBr : BRd W.drew a c L := (unhide HW).2.2.1.1
            have l1 : w.heap.size + 1 < W.heap.size := (unhide HW).2.1.lt
            have l2 : x < W.heap.size := World.block_lt_of_cell? _ _ (unhide LW).1
            refine region_I (S := fun W => BuAt W (w.heap.size + 1) 0 (k : Nat) (.slice a L.length c) ∧ LdAt W x (o + k * 4) ⟨fr, to, dl, ds, ba, bc⟩) (.rd 0 (.rd 1 (.rd 2 (.rd 3 (.rd 4 (.rd 5 (.rd 6 (.rd 7 (.rd 8 (.rd 12 (.rd 13 (.rd 14 (.rd 15 (.rd 16 (.rd 17 (.two 9 23 (.rd 10 (.rd 11 (.two 18 23 (.two 19 23 (.rd 20 (.rd 21 (.rd 22 (.go 23 (.go 24 (.rd 25 .fin)))))) (.go 19 (.rd 20 (.rd 21 (.rd 22 (.go 24 (.rd 25 .fin))))))) (.go 18 (.go 19 (.rd 20 (.rd 21 (.rd 22 (.go 24 (.rd 25 .fin)))))))))) (.go 9 (.rd 10 (.rd 11 (.go 18 (.go 19 (.rd 20 (.rd 21 (.rd 22 (.go 24 (.rd 25 .fin)))))))))))))))))))))))))) [] (by kernel_rfl) (by kernel_rfl) ?_
            refine sI_read (v := (busV 0 (k : Nat) (.slice a L.length c))) rfl (fun _ _ _ h => absurd h.1 (fun e => nomatch e)) (wanted_rd rfl) h0 (fun wx hx => run_lodU (.tmp 4) rfl b4 hx.1) ?_
            show SeqI _ _ _ _ _ _ (Act.put _ (some 38) _) _
            refine sI_read (v := (.int .i64 (F : Nat))) rfl (fun _ _ _ h => absurd h.1 (fun e => nomatch e)) (wanted_rd rfl) h0 (fun wx _ => run_move (.tmp 6) rfl ((ev_other _ _ (by decide)).trans b6) wx) ?_
            show SeqI _ _ _ _ _ _ (Act.put _ (some 39) _) _
            refine sI_read (v := (.int .i64 (F : Nat))) rfl (fun _ _ _ h => absurd h.1 (fun e => nomatch e)) (wanted_rd rfl) h0 (fun wx _ => run_move (.tmp 6) rfl ((ev_other _ _ (by decide)).trans ((ev_other _ _ (by decide)).trans b6)) wx) ?_
            show SeqI _ _ _ _ _ _ (Act.put _ (some 40) _) _
            refine sI_read (v := (.int .i64 (F + 1 : Nat))) rfl (fun _ _ _ h => absurd h.1 (fun e => nomatch e)) (wanted_rd rfl) h0 (fun wx _ => (run_addP (.tmp 40) (.const (.int .i64 1)) rfl (ev_same _ _ _ (by simp only [sz_put]; omega)) rfl (by omega) (by omega) wx).trans (by rw [Int.natCast_add]; rfl)) ?_
            show SeqI _ _ _ _ _ _ (Act.put _ (some 41) _) _
            refine sI_read (v := (.slice (some ⟨x, o, none⟩) D.length cap)) rfl (fun _ _ _ h => absurd h.1 (fun e => nomatch e)) (wanted_rd rfl) h0 (fun wx _ => run_move (.tmp 0) rfl ((ev_other _ _ (by decide)).trans ((ev_other _ _ (by decide)).trans ((ev_other _ _ (by decide)).trans ((ev_other _ _ (by decide)).trans b0)))) wx) ?_
            show SeqI _ _ _ _ _ _ (Act.put _ (some 42) _) _
            refine sI_read (v := (.int .i64 (k : Nat))) rfl (fun _ _ _ h => absurd h.1 (fun e => nomatch e)) (wanted_rd rfl) h0 (fun wx _ => run_move (.tmp 5) rfl ((ev_other _ _ (by decide)).trans ((ev_other _ _ (by decide)).trans ((ev_other _ _ (by decide)).trans ((ev_other _ _ (by decide)).trans ((ev_other _ _ (by decide)).trans b5))))) wx) ?_
            show SeqI _ _ _ _ _ _ (Act.put _ (some 43) _) _
            refine sI_read (v := (.pointer (some ⟨x, o + k * 4, none⟩))) rfl (fun _ _ _ h => absurd h.1 (fun e => nomatch e)) (wanted_rd rfl) h0 (fun wx _ => run_ixL (.tmp 42) (.tmp 43) rfl ((ev_other _ _ (by decide)).trans (ev_same _ _ _ (by simp only [sz_put]; omega))) (ev_same _ _ _ (by simp only [sz_put]; omega)) hin wx) ?_
            show SeqI _ _ _ _ _ _ (Act.put _ (some 44) _) _
            refine sI_read (v := (.pointer (some ⟨x, o + k * 4 + 1, none⟩))) rfl (fun _ _ _ h => absurd h.1 (fun e => nomatch e)) (wanted_rd rfl) h0 (fun wx _ => run_fldL (.tmp 44) 1 rfl (ev_same _ _ _ (by simp only [sz_put]; omega)) (by omega) wx) ?_
            show SeqI _ _ _ _ _ _ (Act.put _ (some 45) _) _
            refine sI_read (v := (.int .i64 to)) rfl (fun _ _ _ h => absurd h.1 (fun e => nomatch e)) (wanted_rd rfl) h0 (fun wx hx => run_lodN (.tmp 45) rfl (ev_same _ _ _ (by simp only [sz_put]; omega)) hx.2.2.1) ?_
            show SeqI _ _ _ _ _ _ (Act.put _ (some 46) _) _
            refine sI_read (v := (.slice da (ds.take 220).length dc)) rfl (fun _ _ _ h => absurd h.1 (fun e => nomatch e)) (wanted_rd rfl) h0 (fun wx _ => run_move (.tmp 7) rfl ((ev_other _ _ (by decide)).trans ((ev_other _ _ (by decide)).trans ((ev_other _ _ (by decide)).trans ((ev_other _ _ (by decide)).trans ((ev_other _ _ (by decide)).trans ((ev_other _ _ (by decide)).trans ((ev_other _ _ (by decide)).trans ((ev_other _ _ (by decide)).trans ((ev_other _ _ (by decide)).trans b7))))))))) wx) ?_
            show SeqI _ _ _ _ _ _ (Act.put _ (some 50) _) _
            refine sI_read (v := (.slice (some ⟨x, o, none⟩) D.length cap)) rfl (fun _ _ _ h => absurd h.1 (fun e => nomatch e)) (wanted_rd rfl) h0 (fun wx _ => run_move (.tmp 0) rfl ((ev_other _ _ (by decide)).trans ((ev_other _ _ (by decide)).trans ((ev_other _ _ (by decide)).trans ((ev_other _ _ (by decide)).trans ((ev_other _ _ (by decide)).trans ((ev_other _ _ (by decide)).trans ((ev_other _ _ (by decide)).trans ((ev_other _ _ (by decide)).trans ((ev_other _ _ (by decide)).trans ((ev_other _ _ (by decide)).trans b0)))))))))) wx) ?_
            show SeqI _ _ _ _ _ _ (Act.put _ (some 51) _) _
            refine sI_read (v := (.int .i64 (k : Nat))) rfl (fun _ _ _ h => absurd h.1 (fun e => nomatch e)) (wanted_rd rfl) h0 (fun wx _ => run_move (.tmp 5) rfl ((ev_other _ _ (by decide)).trans ((ev_other _ _ (by decide)).trans ((ev_other _ _ (by decide)).trans ((ev_other _ _ (by decide)).trans ((ev_other _ _ (by decide)).trans ((ev_other _ _ (by decide)).trans ((ev_other _ _ (by decide)).trans ((ev_other _ _ (by decide)).trans ((ev_other _ _ (by decide)).trans ((ev_other _ _ (by decide)).trans ((ev_other _ _ (by decide)).trans b5))))))))))) wx) ?_
            show SeqI _ _ _ _ _ _ (Act.put _ (some 52) _) _
            refine sI_read (v := (.pointer (some ⟨x, o + k * 4, none⟩))) rfl (fun _ _ _ h => absurd h.1 (fun e => nomatch e)) (wanted_rd rfl) h0 (fun wx _ => run_ixL (.tmp 51) (.tmp 52) rfl ((ev_other _ _ (by decide)).trans (ev_same _ _ _ (by simp only [sz_put]; omega))) (ev_same _ _ _ (by simp only [sz_put]; omega)) hin wx) ?_
            show SeqI _ _ _ _ _ _ (Act.put _ (some 53) _) _
            refine sI_read (v := (.pointer (some ⟨x, o + k * 4 + 2, none⟩))) rfl (fun _ _ _ h => absurd h.1 (fun e => nomatch e)) (wanted_rd rfl) h0 (fun wx _ => run_fldL (.tmp 53) 2 rfl (ev_same _ _ _ (by simp only [sz_put]; omega)) (by omega) wx) ?_
            show SeqI _ _ _ _ _ _ (Act.put _ (some 54) _) _
            refine sI_read (v := (.int .i64 dl)) rfl (fun _ _ _ h => absurd h.1 (fun e => nomatch e)) (wanted_rd rfl) h0 (fun wx hx => run_lodN (.tmp 54) rfl (ev_same _ _ _ (by simp only [sz_put]; omega)) hx.2.2.2.1) ?_
            show SeqI _ _ _ _ _ _ (Act.put _ (some 55) _) _
            refine sI_two rfl rfl (wanted_rd rfl) (wanted_rd rfl) ?_ ?_
            · intro K hK
              refine wp_call2 _ 7 (.tmp 46) (.const (.int .i64 3)) _ rfl ((ev_other _ _ (by decide)).trans ((ev_other _ _ (by decide)).trans ((ev_other _ _ (by decide)).trans ((ev_other _ _ (by decide)).trans ((ev_other _ _ (by decide)).trans ((ev_other _ _ (by decide)).trans (ev_same _ _ _ (by simp only [sz_put]; omega)))))))) rfl (enter_spot _ _ _) (spF_any to 3 (by omega) (by omega) _) ?_
              rw [← unhide ET]
              rintro e wq ⟨rfl, hq⟩
              obtain rfl : W.drew = wq := hq.symm
              refine ⟨_, rfl, ?_⟩
              refine hK _ _ (fun _ => h0) ?_
              clear hK K
              show SeqI _ _ _ _ _ _ (Act.put _ (some 47) _) _
              refine sI_read (v := (.int .i64 (F + 1 + T : Nat))) rfl (fun _ _ _ h => absurd h.1 (fun e => nomatch e)) (wanted_rd rfl) h0 (fun wx _ => (run_addP (.tmp 41) (.tmp 47) rfl ((ev_other _ _ (by decide)).trans ((ev_other _ _ (by decide)).trans ((ev_other _ _ (by decide)).trans ((ev_other _ _ (by decide)).trans ((ev_other _ _ (by decide)).trans ((ev_other _ _ (by decide)).trans ((ev_other _ _ (by decide)).trans ((ev_other _ _ (by decide)).trans ((ev_other _ _ (by decide)).trans ((ev_other _ _ (by decide)).trans ((ev_other _ _ (by decide)).trans ((ev_other _ _ (by decide)).trans (ev_same _ _ _ (by simp only [sz_put]; omega)))))))))))))) (ev_same _ _ _ (by simp only [sz_put]; omega)) (by omega) (by omega) wx).trans (by rw [← Int.natCast_add])) ?_
              show SeqI _ _ _ _ _ _ (Act.put _ (some 48) _) _
              refine sI_read (v := (.int .i64 ((F + 1 + T) % 4 : Nat))) rfl (fun _ _ _ h => absurd h.1 (fun e => nomatch e)) (wanted_rd rfl) h0 (fun wx _ => run_rem4 (.tmp 48) (.const (.int .i64 4)) rfl (ev_same _ _ _ (by simp only [sz_put]; omega)) rfl (by omega) wx) ?_
              show SeqI _ _ _ _ _ _ (Act.put _ (some 49) _) _
              refine sI_two rfl rfl (wanted_rd rfl) (wanted_rd rfl) ?_ ?_
              · intro K hK
                refine wp_call2 _ 7 (.tmp 55) (.const (.int .i64 1001)) _ rfl ((ev_other _ _ (by decide)).trans ((ev_other _ _ (by decide)).trans ((ev_other _ _ (by decide)).trans (ev_same _ _ _ (by simp only [sz_put]; omega))))) rfl (enter_spot _ _ _) (spF_any dl 1001 (by omega) (by omega) _) ?_
                rw [← unhide ED]
                rintro e wq ⟨rfl, hq⟩
                obtain rfl : W.drew = wq := hq.symm
                refine ⟨_, rfl, ?_⟩
                refine hK _ _ (fun _ => h0) ?_
                clear hK K
                show SeqI _ _ _ _ _ _ (Act.put _ (some 56) _) _
                refine sI_two rfl rfl (wanted_rd rfl) (wanted_rd rfl) ?_ ?_
                · intro K hK
                  refine wp_call5 _ 12 (.tmp 38) (.tmp 39) (.tmp 49) (.tmp 50) (.tmp 56) _ rfl ((ev_other _ _ (by decide)).trans ((ev_other _ _ (by decide)).trans ((ev_other _ _ (by decide)).trans ((ev_other _ _ (by decide)).trans ((ev_other _ _ (by decide)).trans ((ev_other _ _ (by decide)).trans ((ev_other _ _ (by decide)).trans ((ev_other _ _ (by decide)).trans ((ev_other _ _ (by decide)).trans ((ev_other _ _ (by decide)).trans ((ev_other _ _ (by decide)).trans ((ev_other _ _ (by decide)).trans ((ev_other _ _ (by decide)).trans ((ev_other _ _ (by decide)).trans ((ev_other _ _ (by decide)).trans ((ev_other _ _ (by decide)).trans ((ev_other _ _ (by decide)).trans ((ev_other _ _ (by decide)).trans (ev_same _ _ _ (by omega)))))))))))))))))))) ((ev_other _ _ (by decide)).trans ((ev_other _ _ (by decide)).trans ((ev_other _ _ (by decide)).trans ((ev_other _ _ (by decide)).trans ((ev_other _ _ (by decide)).trans ((ev_other _ _ (by decide)).trans ((ev_other _ _ (by decide)).trans ((ev_other _ _ (by decide)).trans ((ev_other _ _ (by decide)).trans ((ev_other _ _ (by decide)).trans ((ev_other _ _ (by decide)).trans ((ev_other _ _ (by decide)).trans ((ev_other _ _ (by decide)).trans ((ev_other _ _ (by decide)).trans ((ev_other _ _ (by decide)).trans ((ev_other _ _ (by decide)).trans ((ev_other _ _ (by decide)).trans (ev_same _ _ _ (by simp only [sz_put]; omega))))))))))))))))))) ((ev_other _ _ (by decide)).trans (ev_same _ _ _ (by simp only [sz_put]; omega))) ((ev_other _ _ (by decide)).trans ((ev_other _ _ (by decide)).trans ((ev_other _ _ (by decide)).trans ((ev_other _ _ (by decide)).trans ((ev_other _ _ (by decide)).trans ((ev_other _ _ (by decide)).trans ((ev_other _ _ (by decide)).trans ((ev_other _ _ (by decide)).trans ((ev_other _ _ (by decide)).trans (ev_same _ _ _ (by simp only [sz_put]; omega))))))))))) (ev_same _ _ _ (by simp only [sz_put]; omega)) (enter_send _ _ _ _ _ _) (hS ⟨0, (k : Nat), ldQ D k⟩ a c L (F : Nat) ((F + 1 + T) % 4 : Nat) (E : Nat) da dc (ds.take 220) _ (unhide BO) (unhide TL) hBr (by unfold R64; omega) (by unfold R64; omega) (by unfold R64; omega) hSr hdc (unhide D256) hd2) ?_
                  rw [(unhide SN).1, (unhide SN).2]
                  dsimp only
                  rintro e w1 ⟨a6, c6, L6, rfl, t6, n1, k1⟩
                  have h1 : (BuAt w1 (w.heap.size + 1) 0 (k : Nat) (.slice a L.length c) ∧ LdAt w1 x (o + k * 4) ⟨fr, to, dl, ds, ba, bc⟩) := ⟨h0.1.below k1, h0.2.below k1⟩
                  have j1 : Below W.drew.heap.size W.drew w1 := (Below.refl W.drew.heap.size W.drew).trans (k1.mono (Below.refl W.drew.heap.size W.drew).size)
                  refine ⟨_, rfl, ?_⟩
                  refine hK _ _ (fun _ => h1) ?_
                  clear hK K
                  show SeqI _ _ _ _ _ _ (Act.put _ (some 57) _) _
                  refine sI_read (v := (.tuple #[busV 0 (k + 1 : Nat) (.slice a6 L6.length c6), .int .i64 0])) rfl (fun _ _ _ h => absurd h.1 (fun e => nomatch e)) (wanted_rd rfl) h1 (fun wx _ => run_move (.tmp 57) rfl (ev_same _ _ _ (by simp only [sz_put]; omega)) wx) ?_
                  show SeqI _ _ _ _ _ _ (Act.put _ (some 37) _) _
                  refine sI_read (v := (busV 0 (k + 1 : Nat) (.slice a6 L6.length c6))) rfl (fun _ _ _ h => absurd h.1 (fun e => nomatch e)) (wanted_rd rfl) h1 (fun wx _ => run_get2 (.tmp 37) 0 rfl (ev_same _ _ _ (by simp only [sz_put]; omega)) rfl wx) ?_
                  show SeqI _ _ _ _ _ _ (Act.put _ (some 58) _) _
                  refine sI_read (v := (.int .i64 0)) rfl (fun _ _ _ h => absurd h.1 (fun e => nomatch e)) (wanted_rd rfl) h1 (fun wx _ => run_get2 (.tmp 37) 1 rfl ((ev_other _ _ (by decide)).trans (ev_same _ _ _ (by simp only [sz_put]; omega))) rfl wx) ?_
                  show SeqI _ _ _ _ _ _ (Act.put _ (some 59) _) _
                  refine sI_do rfl (wanted_rd rfl) (fun K hK => ?_)
                  refine wp_allocU _ rfl ?_
                  intro w2 m2 k2 z2
                  have h2 : (BuAt w2 (w.heap.size + 1) 0 (k : Nat) (.slice a L.length c) ∧ LdAt w2 x (o + k * 4) ⟨fr, to, dl, ds, ba, bc⟩) := ⟨h1.1.below k2, h1.2.below k2⟩
                  have j2 : Below W.drew.heap.size W.drew w2 := j1.trans (k2.mono j1.size)
                  have hg : W.heap.size ≤ w1.heap.size := j1.size
                  have lb := k2
                  refine hK _ _ (fun _ => h2) ?_
                  clear hK K
                  show SeqI _ _ _ _ _ _ (Act.put _ (some 8) _) _
                  refine sI_do rfl (wanted_rd rfl) (fun K hK => ?_)
                  refine wp_storeU _ (.tmp 8) (.tmp 58) rfl (ev_same _ _ _ (by simp only [sz_put]; omega)) ((ev_other _ _ (by decide)).trans ((ev_other _ _ (by decide)).trans (ev_same _ _ _ (by simp only [sz_put]; omega)))) m2 rfl ?_
                  intro w3 m3 k3 z3
                  have h3 : (BuAt w3 (w.heap.size + 1) 0 (k : Nat) (.slice a L.length c) ∧ LdAt w3 x (o + k * 4) ⟨fr, to, dl, ds, ba, bc⟩) := ⟨h2.1.kept k3 (by omega), h2.2.kept k3 (by omega)⟩
                  refine hK _ _ (fun _ => h3) ?_
                  clear hK K
                  refine sI_read (v := (.int .i64 0)) rfl (fun _ _ _ h => absurd h.1 (fun e => nomatch e)) (wanted_rd rfl) h3 (fun wx _ => run_assign (.tmp 59) rfl ((ev_other _ _ (by decide)).trans (ev_same _ _ _ (by simp only [sz_put]; omega))) wx) ?_
                  show SeqI _ _ _ _ _ _ (Act.put _ (some 9) _) _
                  have jj : Below W.heap.size W w3 := below_of_kept ((below_drew (Below.refl _ _)).trans (show Below W.heap.size W.drew w2 from j2)) k3 hg (show W.heap.size ≤ w2.heap.size from j2.size)
                  exact sI_end ⟨rfl, a6, c6, L6, w1.heap.size, t6, (n1.below (below_of_kept lb k3 (Nat.le_refl _) lb.size)).weak (show W.heap.size ≤ W.drew.heap.size from (Below.refl W.drew.heap.size W.drew).size), m3, jj, hg, (by rw [put_swap _ 59 8 _ _ (by decide), put_swap _ 58 8 _ _ (by decide), put_swap _ 37 8 _ _ (by decide), put_swap _ 57 8 _ _ (by decide), put_swap _ 56 8 _ _ (by decide), put_swap _ 49 8 _ _ (by decide), put_swap _ 48 8 _ _ (by decide), put_swap _ 47 8 _ _ (by decide)]; first | done | rfl)⟩
                · intro K hK
                  refine wp_allocU _ rfl ?_
                  intro w1 m1 k1 z1
                  have h1 : (BuAt w1 (w.heap.size + 1) 0 (k : Nat) (.slice a L.length c) ∧ LdAt w1 x (o + k * 4) ⟨fr, to, dl, ds, ba, bc⟩) := ⟨h0.1.below k1, h0.2.below k1⟩
                  have j1 : Below W.drew.heap.size W.drew w1 := (Below.refl W.drew.heap.size W.drew).trans (k1.mono (Below.refl W.drew.heap.size W.drew).size)
                  have hg : W.heap.size ≤ W.drew.heap.size := (Below.refl W.drew.heap.size W.drew).size
                  refine hK _ _ (fun _ => h1) ?_
                  clear hK K
                  show SeqI _ _ _ _ _ _ (Act.put _ (some 8) _) _
                  refine sI_do rfl (wanted_rd rfl) (fun K hK => ?_)
                  refine wp_call5 _ 12 (.tmp 38) (.tmp 39) (.tmp 49) (.tmp 50) (.tmp 56) _ rfl ((ev_other _ _ (by decide)).trans ((ev_other _ _ (by decide)).trans ((ev_other _ _ (by decide)).trans ((ev_other _ _ (by decide)).trans ((ev_other _ _ (by decide)).trans ((ev_other _ _ (by decide)).trans ((ev_other _ _ (by decide)).trans ((ev_other _ _ (by decide)).trans ((ev_other _ _ (by decide)).trans ((ev_other _ _ (by decide)).trans ((ev_other _ _ (by decide)).trans ((ev_other _ _ (by decide)).trans ((ev_other _ _ (by decide)).trans ((ev_other _ _ (by decide)).trans ((ev_other _ _ (by decide)).trans ((ev_other _ _ (by decide)).trans ((ev_other _ _ (by decide)).trans ((ev_other _ _ (by decide)).trans ((ev_other _ _ (by decide)).trans (ev_same _ _ _ (by omega))))))))))))))))))))) ((ev_other _ _ (by decide)).trans ((ev_other _ _ (by decide)).trans ((ev_other _ _ (by decide)).trans ((ev_other _ _ (by decide)).trans ((ev_other _ _ (by decide)).trans ((ev_other _ _ (by decide)).trans ((ev_other _ _ (by decide)).trans ((ev_other _ _ (by decide)).trans ((ev_other _ _ (by decide)).trans ((ev_other _ _ (by decide)).trans ((ev_other _ _ (by decide)).trans ((ev_other _ _ (by decide)).trans ((ev_other _ _ (by decide)).trans ((ev_other _ _ (by decide)).trans ((ev_other _ _ (by decide)).trans ((ev_other _ _ (by decide)).trans ((ev_other _ _ (by decide)).trans ((ev_other _ _ (by decide)).trans (ev_same _ _ _ (by simp only [sz_put]; omega)))))))))))))))))))) ((ev_other _ _ (by decide)).trans ((ev_other _ _ (by decide)).trans (ev_same _ _ _ (by simp only [sz_put]; omega)))) ((ev_other _ _ (by decide)).trans ((ev_other _ _ (by decide)).trans ((ev_other _ _ (by decide)).trans ((ev_other _ _ (by decide)).trans ((ev_other _ _ (by decide)).trans ((ev_other _ _ (by decide)).trans ((ev_other _ _ (by decide)).trans ((ev_other _ _ (by decide)).trans ((ev_other _ _ (by decide)).trans ((ev_other _ _ (by decide)).trans (ev_same _ _ _ (by simp only [sz_put]; omega)))))))))))) ((ev_other _ _ (by decide)).trans (ev_same _ _ _ (by simp only [sz_put]; omega))) (enter_send _ _ _ _ _ _) (hS ⟨0, (k : Nat), ldQ D k⟩ a c L (F : Nat) ((F + 1 + T) % 4 : Nat) (E : Nat) da dc (ds.take 220) _ (unhide BO) (unhide TL) (hBr.below j1) (by unfold R64; omega) (by unfold R64; omega) (by unfold R64; omega) (hSr.below j1) hdc (unhide D256) hd2) ?_
                  rw [(unhide SN).1, (unhide SN).2]
                  dsimp only
                  rintro e w2 ⟨a6, c6, L6, rfl, t6, n2, k2⟩
                  have h2 : (BuAt w2 (w.heap.size + 1) 0 (k : Nat) (.slice a L.length c) ∧ LdAt w2 x (o + k * 4) ⟨fr, to, dl, ds, ba, bc⟩) := ⟨h1.1.below k2, h1.2.below k2⟩
                  have j2 : Below W.drew.heap.size W.drew w2 := j1.trans (k2.mono j1.size)
                  have m2 := m1.below k2
                  refine ⟨_, rfl, ?_⟩
                  refine hK _ _ (fun _ => h2) ?_
                  clear hK K
                  show SeqI _ _ _ _ _ _ (Act.put _ (some 57) _) _
                  refine sI_read (v := (.tuple #[busV 0 (k + 1 : Nat) (.slice a6 L6.length c6), .int .i64 0])) rfl (fun _ _ _ h => absurd h.1 (fun e => nomatch e)) (wanted_rd rfl) h2 (fun wx _ => run_move (.tmp 57) rfl (ev_same _ _ _ (by simp only [sz_put]; omega)) wx) ?_
                  show SeqI _ _ _ _ _ _ (Act.put _ (some 37) _) _
                  refine sI_read (v := (busV 0 (k + 1 : Nat) (.slice a6 L6.length c6))) rfl (fun _ _ _ h => absurd h.1 (fun e => nomatch e)) (wanted_rd rfl) h2 (fun wx _ => run_get2 (.tmp 37) 0 rfl (ev_same _ _ _ (by simp only [sz_put]; omega)) rfl wx) ?_
                  show SeqI _ _ _ _ _ _ (Act.put _ (some 58) _) _
                  refine sI_read (v := (.int .i64 0)) rfl (fun _ _ _ h => absurd h.1 (fun e => nomatch e)) (wanted_rd rfl) h2 (fun wx _ => run_get2 (.tmp 37) 1 rfl ((ev_other _ _ (by decide)).trans (ev_same _ _ _ (by simp only [sz_put]; omega))) rfl wx) ?_
                  show SeqI _ _ _ _ _ _ (Act.put _ (some 59) _) _
                  refine sI_do rfl (wanted_rd rfl) (fun K hK => ?_)
                  refine wp_storeU _ (.tmp 8) (.tmp 58) rfl ((ev_other _ _ (by decide)).trans ((ev_other _ _ (by decide)).trans ((ev_other _ _ (by decide)).trans ((ev_other _ _ (by decide)).trans (ev_same _ _ _ (by simp only [sz_put]; omega)))))) ((ev_other _ _ (by decide)).trans (ev_same _ _ _ (by simp only [sz_put]; omega))) m2 rfl ?_
                  intro w3 m3 k3 z3
                  have h3 : (BuAt w3 (w.heap.size + 1) 0 (k : Nat) (.slice a L.length c) ∧ LdAt w3 x (o + k * 4) ⟨fr, to, dl, ds, ba, bc⟩) := ⟨h2.1.kept k3 (by omega), h2.2.kept k3 (by omega)⟩
                  refine hK _ _ (fun _ => h3) ?_
                  clear hK K
                  refine sI_read (v := (.int .i64 0)) rfl (fun _ _ _ h => absurd h.1 (fun e => nomatch e)) (wanted_rd rfl) h3 (fun wx _ => run_assign (.tmp 59) rfl (ev_same _ _ _ (by simp only [sz_put]; omega)) wx) ?_
                  show SeqI _ _ _ _ _ _ (Act.put _ (some 9) _) _
                  have jj : Below W.heap.size W w3 := below_of_kept ((below_drew (Below.refl _ _)).trans (show Below W.heap.size W.drew w2 from j2)) k3 hg (show W.heap.size ≤ w2.heap.size from j2.size)
                  exact sI_end ⟨rfl, a6, c6, L6, W.drew.heap.size, t6, (n2.kept k3 (by omega)).weak (show W.heap.size ≤ w1.heap.size from j1.size), m3, jj, hg, (by rw [put_swap _ 56 8 _ _ (by decide), put_swap _ 49 8 _ _ (by decide), put_swap _ 48 8 _ _ (by decide), put_swap _ 47 8 _ _ (by decide)]; first | done | rfl)⟩
              · intro K hK
                refine wp_allocU _ rfl ?_
                intro w1 m1 k1 z1
                have h1 : (BuAt w1 (w.heap.size + 1) 0 (k : Nat) (.slice a L.length c) ∧ LdAt w1 x (o + k * 4) ⟨fr, to, dl, ds, ba, bc⟩) := ⟨h0.1.below k1, h0.2.below k1⟩
                have j1 : Below W.drew.heap.size W.drew w1 := (Below.refl W.drew.heap.size W.drew).trans (k1.mono (Below.refl W.drew.heap.size W.drew).size)
                have hg : W.heap.size ≤ W.drew.heap.size := (Below.refl W.drew.heap.size W.drew).size
                refine hK _ _ (fun _ => h1) ?_
                clear hK K
                show SeqI _ _ _ _ _ _ (Act.put _ (some 8) _) _
                refine sI_do rfl (wanted_rd rfl) (fun K hK => ?_)
                refine wp_call2 _ 7 (.tmp 55) (.const (.int .i64 1001)) _ rfl ((ev_other _ _ (by decide)).trans ((ev_other _ _ (by decide)).trans ((ev_other _ _ (by decide)).trans ((ev_other _ _ (by decide)).trans (ev_same _ _ _ (by simp only [sz_put]; omega)))))) rfl (enter_spot _ _ _) (spF_any dl 1001 (by omega) (by omega) _) ?_
                rw [← unhide ED]
                rintro e wq ⟨rfl, hq⟩
                obtain rfl : w1 = wq := hq.symm
                refine ⟨_, rfl, ?_⟩
                refine hK _ _ (fun _ => h1) ?_
                clear hK K
                show SeqI _ _ _ _ _ _ (Act.put _ (some 56) _) _
                refine sI_do rfl (wanted_rd rfl) (fun K hK => ?_)
                refine wp_call5 _ 12 (.tmp 38) (.tmp 39) (.tmp 49) (.tmp 50) (.tmp 56) _ rfl ((ev_other _ _ (by decide)).trans ((ev_other _ _ (by decide)).trans ((ev_other _ _ (by decide)).trans ((ev_other _ _ (by decide)).trans ((ev_other _ _ (by decide)).trans ((ev_other _ _ (by decide)).trans ((ev_other _ _ (by decide)).trans ((ev_other _ _ (by decide)).trans ((ev_other _ _ (by decide)).trans ((ev_other _ _ (by decide)).trans ((ev_other _ _ (by decide)).trans ((ev_other _ _ (by decide)).trans ((ev_other _ _ (by decide)).trans ((ev_other _ _ (by decide)).trans ((ev_other _ _ (by decide)).trans ((ev_other _ _ (by decide)).trans ((ev_other _ _ (by decide)).trans ((ev_other _ _ (by decide)).trans ((ev_other _ _ (by decide)).trans (ev_same _ _ _ (by omega))))))))))))))))))))) ((ev_other _ _ (by decide)).trans ((ev_other _ _ (by decide)).trans ((ev_other _ _ (by decide)).trans ((ev_other _ _ (by decide)).trans ((ev_other _ _ (by decide)).trans ((ev_other _ _ (by decide)).trans ((ev_other _ _ (by decide)).trans ((ev_other _ _ (by decide)).trans ((ev_other _ _ (by decide)).trans ((ev_other _ _ (by decide)).trans ((ev_other _ _ (by decide)).trans ((ev_other _ _ (by decide)).trans ((ev_other _ _ (by decide)).trans ((ev_other _ _ (by decide)).trans ((ev_other _ _ (by decide)).trans ((ev_other _ _ (by decide)).trans ((ev_other _ _ (by decide)).trans ((ev_other _ _ (by decide)).trans (ev_same _ _ _ (by simp only [sz_put]; omega)))))))))))))))))))) ((ev_other _ _ (by decide)).trans ((ev_other _ _ (by decide)).trans (ev_same _ _ _ (by simp only [sz_put]; omega)))) ((ev_other _ _ (by decide)).trans ((ev_other _ _ (by decide)).trans ((ev_other _ _ (by decide)).trans ((ev_other _ _ (by decide)).trans ((ev_other _ _ (by decide)).trans ((ev_other _ _ (by decide)).trans ((ev_other _ _ (by decide)).trans ((ev_other _ _ (by decide)).trans ((ev_other _ _ (by decide)).trans ((ev_other _ _ (by decide)).trans (ev_same _ _ _ (by simp only [sz_put]; omega)))))))))))) (ev_same _ _ _ (by simp only [sz_put]; omega)) (enter_send _ _ _ _ _ _) (hS ⟨0, (k : Nat), ldQ D k⟩ a c L (F : Nat) ((F + 1 + T) % 4 : Nat) (E : Nat) da dc (ds.take 220) _ (unhide BO) (unhide TL) (hBr.below j1) (by unfold R64; omega) (by unfold R64; omega) (by unfold R64; omega) (hSr.below j1) hdc (unhide D256) hd2) ?_
                rw [(unhide SN).1, (unhide SN).2]
                dsimp only
                rintro e w2 ⟨a6, c6, L6, rfl, t6, n2, k2⟩
                have h2 : (BuAt w2 (w.heap.size + 1) 0 (k : Nat) (.slice a L.length c) ∧ LdAt w2 x (o + k * 4) ⟨fr, to, dl, ds, ba, bc⟩) := ⟨h1.1.below k2, h1.2.below k2⟩
                have j2 : Below W.drew.heap.size W.drew w2 := j1.trans (k2.mono j1.size)
                have m2 := m1.below k2
                refine ⟨_, rfl, ?_⟩
                refine hK _ _ (fun _ => h2) ?_
                clear hK K
                show SeqI _ _ _ _ _ _ (Act.put _ (some 57) _) _
                refine sI_read (v := (.tuple #[busV 0 (k + 1 : Nat) (.slice a6 L6.length c6), .int .i64 0])) rfl (fun _ _ _ h => absurd h.1 (fun e => nomatch e)) (wanted_rd rfl) h2 (fun wx _ => run_move (.tmp 57) rfl (ev_same _ _ _ (by simp only [sz_put]; omega)) wx) ?_
                show SeqI _ _ _ _ _ _ (Act.put _ (some 37) _) _
                refine sI_read (v := (busV 0 (k + 1 : Nat) (.slice a6 L6.length c6))) rfl (fun _ _ _ h => absurd h.1 (fun e => nomatch e)) (wanted_rd rfl) h2 (fun wx _ => run_get2 (.tmp 37) 0 rfl (ev_same _ _ _ (by simp only [sz_put]; omega)) rfl wx) ?_
                show SeqI _ _ _ _ _ _ (Act.put _ (some 58) _) _
                refine sI_read (v := (.int .i64 0)) rfl (fun _ _ _ h => absurd h.1 (fun e => nomatch e)) (wanted_rd rfl) h2 (fun wx _ => run_get2 (.tmp 37) 1 rfl ((ev_other _ _ (by decide)).trans (ev_same _ _ _ (by simp only [sz_put]; omega))) rfl wx) ?_
                show SeqI _ _ _ _ _ _ (Act.put _ (some 59) _) _
                refine sI_do rfl (wanted_rd rfl) (fun K hK => ?_)
                refine wp_storeU _ (.tmp 8) (.tmp 58) rfl ((ev_other _ _ (by decide)).trans ((ev_other _ _ (by decide)).trans ((ev_other _ _ (by decide)).trans ((ev_other _ _ (by decide)).trans ((ev_other _ _ (by decide)).trans (ev_same _ _ _ (by simp only [sz_put]; omega))))))) ((ev_other _ _ (by decide)).trans (ev_same _ _ _ (by simp only [sz_put]; omega))) m2 rfl ?_
                intro w3 m3 k3 z3
                have h3 : (BuAt w3 (w.heap.size + 1) 0 (k : Nat) (.slice a L.length c) ∧ LdAt w3 x (o + k * 4) ⟨fr, to, dl, ds, ba, bc⟩) := ⟨h2.1.kept k3 (by omega), h2.2.kept k3 (by omega)⟩
                refine hK _ _ (fun _ => h3) ?_
                clear hK K
                refine sI_read (v := (.int .i64 0)) rfl (fun _ _ _ h => absurd h.1 (fun e => nomatch e)) (wanted_rd rfl) h3 (fun wx _ => run_assign (.tmp 59) rfl (ev_same _ _ _ (by simp only [sz_put]; omega)) wx) ?_
                show SeqI _ _ _ _ _ _ (Act.put _ (some 9) _) _
                have jj : Below W.heap.size W w3 := below_of_kept ((below_drew (Below.refl _ _)).trans (show Below W.heap.size W.drew w2 from j2)) k3 hg (show W.heap.size ≤ w2.heap.size from j2.size)
                exact sI_end ⟨rfl, a6, c6, L6, W.drew.heap.size, t6, (n2.kept k3 (by omega)).weak (show W.heap.size ≤ w1.heap.size from j1.size), m3, jj, hg, (by rw [put_swap _ 49 8 _ _ (by decide), put_swap _ 48 8 _ _ (by decide), put_swap _ 47 8 _ _ (by decide)]; first | done | rfl)⟩
            · intro K hK
              refine wp_allocU _ rfl ?_
              intro w1 m1 k1 z1
              have h1 : (BuAt w1 (w.heap.size + 1) 0 (k : Nat) (.slice a L.length c) ∧ LdAt w1 x (o + k * 4) ⟨fr, to, dl, ds, ba, bc⟩) := ⟨h0.1.below k1, h0.2.below k1⟩
              have j1 : Below W.drew.heap.size W.drew w1 := (Below.refl W.drew.heap.size W.drew).trans (k1.mono (Below.refl W.drew.heap.size W.drew).size)
              have hg : W.heap.size ≤ W.drew.heap.size := (Below.refl W.drew.heap.size W.drew).size
              refine hK _ _ (fun _ => h1) ?_
              clear hK K
              show SeqI _ _ _ _ _ _ (Act.put _ (some 8) _) _
              refine sI_do rfl (wanted_rd rfl) (fun K hK => ?_)
              refine wp_call2 _ 7 (.tmp 46) (.const (.int .i64 3)) _ rfl ((ev_other _ _ (by decide)).trans ((ev_other _ _ (by decide)).trans ((ev_other _ _ (by decide)).trans ((ev_other _ _ (by decide)).trans ((ev_other _ _ (by decide)).trans ((ev_other _ _ (by decide)).trans ((ev_other _ _ (by decide)).trans (ev_same _ _ _ (by simp only [sz_put]; omega))))))))) rfl (enter_spot _ _ _) (spF_any to 3 (by omega) (by omega) _) ?_
              rw [← unhide ET]
              rintro e wq ⟨rfl, hq⟩
              obtain rfl : w1 = wq := hq.symm
              refine ⟨_, rfl, ?_⟩
              refine hK _ _ (fun _ => h1) ?_
              clear hK K
              show SeqI _ _ _ _ _ _ (Act.put _ (some 47) _) _
              refine sI_read (v := (.int .i64 (F + 1 + T : Nat))) rfl (fun _ _ _ h => absurd h.1 (fun e => nomatch e)) (wanted_rd rfl) h1 (fun wx _ => (run_addP (.tmp 41) (.tmp 47) rfl ((ev_other _ _ (by decide)).trans ((ev_other _ _ (by decide)).trans ((ev_other _ _ (by decide)).trans ((ev_other _ _ (by decide)).trans ((ev_other _ _ (by decide)).trans ((ev_other _ _ (by decide)).trans ((ev_other _ _ (by decide)).trans ((ev_other _ _ (by decide)).trans ((ev_other _ _ (by decide)).trans ((ev_other _ _ (by decide)).trans ((ev_other _ _ (by decide)).trans ((ev_other _ _ (by decide)).trans ((ev_other _ _ (by decide)).trans (ev_same _ _ _ (by simp only [sz_put]; omega))))))))))))))) (ev_same _ _ _ (by simp only [sz_put]; omega)) (by omega) (by omega) wx).trans (by rw [← Int.natCast_add])) ?_
              show SeqI _ _ _ _ _ _ (Act.put _ (some 48) _) _
              refine sI_read (v := (.int .i64 ((F + 1 + T) % 4 : Nat))) rfl (fun _ _ _ h => absurd h.1 (fun e => nomatch e)) (wanted_rd rfl) h1 (fun wx _ => run_rem4 (.tmp 48) (.const (.int .i64 4)) rfl (ev_same _ _ _ (by simp only [sz_put]; omega)) rfl (by omega) wx) ?_
              show SeqI _ _ _ _ _ _ (Act.put _ (some 49) _) _
              refine sI_do rfl (wanted_rd rfl) (fun K hK => ?_)
              refine wp_call2 _ 7 (.tmp 55) (.const (.int .i64 1001)) _ rfl ((ev_other _ _ (by decide)).trans ((ev_other _ _ (by decide)).trans ((ev_other _ _ (by decide)).trans ((ev_other _ _ (by decide)).trans (ev_same _ _ _ (by simp only [sz_put]; omega)))))) rfl (enter_spot _ _ _) (spF_any dl 1001 (by omega) (by omega) _) ?_
              rw [← unhide ED]
              rintro e wq ⟨rfl, hq⟩
              obtain rfl : w1 = wq := hq.symm
              refine ⟨_, rfl, ?_⟩
              refine hK _ _ (fun _ => h1) ?_
              clear hK K
              show SeqI _ _ _ _ _ _ (Act.put _ (some 56) _) _
              refine sI_do rfl (wanted_rd rfl) (fun K hK => ?_)
              refine wp_call5 _ 12 (.tmp 38) (.tmp 39) (.tmp 49) (.tmp 50) (.tmp 56) _ rfl ((ev_other _ _ (by decide)).trans ((ev_other _ _ (by decide)).trans ((ev_other _ _ (by decide)).trans ((ev_other _ _ (by decide)).trans ((ev_other _ _ (by decide)).trans ((ev_other _ _ (by decide)).trans ((ev_other _ _ (by decide)).trans ((ev_other _ _ (by decide)).trans ((ev_other _ _ (by decide)).trans ((ev_other _ _ (by decide)).trans ((ev_other _ _ (by decide)).trans ((ev_other _ _ (by decide)).trans ((ev_other _ _ (by decide)).trans ((ev_other _ _ (by decide)).trans ((ev_other _ _ (by decide)).trans ((ev_other _ _ (by decide)).trans ((ev_other _ _ (by decide)).trans ((ev_other _ _ (by decide)).trans ((ev_other _ _ (by decide)).trans (ev_same _ _ _ (by omega))))))))))))))))))))) ((ev_other _ _ (by decide)).trans ((ev_other _ _ (by decide)).trans ((ev_other _ _ (by decide)).trans ((ev_other _ _ (by decide)).trans ((ev_other _ _ (by decide)).trans ((ev_other _ _ (by decide)).trans ((ev_other _ _ (by decide)).trans ((ev_other _ _ (by decide)).trans ((ev_other _ _ (by decide)).trans ((ev_other _ _ (by decide)).trans ((ev_other _ _ (by decide)).trans ((ev_other _ _ (by decide)).trans ((ev_other _ _ (by decide)).trans ((ev_other _ _ (by decide)).trans ((ev_other _ _ (by decide)).trans ((ev_other _ _ (by decide)).trans ((ev_other _ _ (by decide)).trans ((ev_other _ _ (by decide)).trans (ev_same _ _ _ (by simp only [sz_put]; omega)))))))))))))))))))) ((ev_other _ _ (by decide)).trans (ev_same _ _ _ (by simp only [sz_put]; omega))) ((ev_other _ _ (by decide)).trans ((ev_other _ _ (by decide)).trans ((ev_other _ _ (by decide)).trans ((ev_other _ _ (by decide)).trans ((ev_other _ _ (by decide)).trans ((ev_other _ _ (by decide)).trans ((ev_other _ _ (by decide)).trans ((ev_other _ _ (by decide)).trans ((ev_other _ _ (by decide)).trans ((ev_other _ _ (by decide)).trans (ev_same _ _ _ (by simp only [sz_put]; omega)))))))))))) (ev_same _ _ _ (by simp only [sz_put]; omega)) (enter_send _ _ _ _ _ _) (hS ⟨0, (k : Nat), ldQ D k⟩ a c L (F : Nat) ((F + 1 + T) % 4 : Nat) (E : Nat) da dc (ds.take 220) _ (unhide BO) (unhide TL) (hBr.below j1) (by unfold R64; omega) (by unfold R64; omega) (by unfold R64; omega) (hSr.below j1) hdc (unhide D256) hd2) ?_
              rw [(unhide SN).1, (unhide SN).2]
              dsimp only
              rintro e w2 ⟨a6, c6, L6, rfl, t6, n2, k2⟩
              have h2 : (BuAt w2 (w.heap.size + 1) 0 (k : Nat) (.slice a L.length c) ∧ LdAt w2 x (o + k * 4) ⟨fr, to, dl, ds, ba, bc⟩) := ⟨h1.1.below k2, h1.2.below k2⟩
              have j2 : Below W.drew.heap.size W.drew w2 := j1.trans (k2.mono j1.size)
              have m2 := m1.below k2
              refine ⟨_, rfl, ?_⟩
              refine hK _ _ (fun _ => h2) ?_
              clear hK K
              show SeqI _ _ _ _ _ _ (Act.put _ (some 57) _) _
              refine sI_read (v := (.tuple #[busV 0 (k + 1 : Nat) (.slice a6 L6.length c6), .int .i64 0])) rfl (fun _ _ _ h => absurd h.1 (fun e => nomatch e)) (wanted_rd rfl) h2 (fun wx _ => run_move (.tmp 57) rfl (ev_same _ _ _ (by simp only [sz_put]; omega)) wx) ?_
              show SeqI _ _ _ _ _ _ (Act.put _ (some 37) _) _
              refine sI_read (v := (busV 0 (k + 1 : Nat) (.slice a6 L6.length c6))) rfl (fun _ _ _ h => absurd h.1 (fun e => nomatch e)) (wanted_rd rfl) h2 (fun wx _ => run_get2 (.tmp 37) 0 rfl (ev_same _ _ _ (by simp only [sz_put]; omega)) rfl wx) ?_
              show SeqI _ _ _ _ _ _ (Act.put _ (some 58) _) _
              refine sI_read (v := (.int .i64 0)) rfl (fun _ _ _ h => absurd h.1 (fun e => nomatch e)) (wanted_rd rfl) h2 (fun wx _ => run_get2 (.tmp 37) 1 rfl ((ev_other _ _ (by decide)).trans (ev_same _ _ _ (by simp only [sz_put]; omega))) rfl wx) ?_
              show SeqI _ _ _ _ _ _ (Act.put _ (some 59) _) _
              refine sI_do rfl (wanted_rd rfl) (fun K hK => ?_)
              refine wp_storeU _ (.tmp 8) (.tmp 58) rfl ((ev_other _ _ (by decide)).trans ((ev_other _ _ (by decide)).trans ((ev_other _ _ (by decide)).trans ((ev_other _ _ (by decide)).trans ((ev_other _ _ (by decide)).trans ((ev_other _ _ (by decide)).trans ((ev_other _ _ (by decide)).trans ((ev_other _ _ (by decide)).trans (ev_same _ _ _ (by simp only [sz_put]; omega)))))))))) ((ev_other _ _ (by decide)).trans (ev_same _ _ _ (by simp only [sz_put]; omega))) m2 rfl ?_
              intro w3 m3 k3 z3
              have h3 : (BuAt w3 (w.heap.size + 1) 0 (k : Nat) (.slice a L.length c) ∧ LdAt w3 x (o + k * 4) ⟨fr, to, dl, ds, ba, bc⟩) := ⟨h2.1.kept k3 (by omega), h2.2.kept k3 (by omega)⟩
              refine hK _ _ (fun _ => h3) ?_
              clear hK K
              refine sI_read (v := (.int .i64 0)) rfl (fun _ _ _ h => absurd h.1 (fun e => nomatch e)) (wanted_rd rfl) h3 (fun wx _ => run_assign (.tmp 59) rfl (ev_same _ _ _ (by simp only [sz_put]; omega)) wx) ?_
              show SeqI _ _ _ _ _ _ (Act.put _ (some 9) _) _
              have jj : Below W.heap.size W w3 := below_of_kept ((below_drew (Below.refl _ _)).trans (show Below W.heap.size W.drew w2 from j2)) k3 hg (show W.heap.size ≤ w2.heap.size from j2.size)
              exact sI_end ⟨rfl, a6, c6, L6, W.drew.heap.size, t6, (n2.kept k3 (by omega)).weak (show W.heap.size ≤ w1.heap.size from j1.size), m3, jj, hg, rfl⟩
          case rest =>
            rintro a' w7 ⟨a6, c6, L6, g8, t6, n6, m6, j6, hg, rfl⟩
            have h7 := (unhide HW).below j6
            have u0 := m6.cell0; have u1 := m6.cell1; have u2 := m6.cell2
            have l1 : w.heap.size + 1 < W.heap.size := (unhide HW).2.1.lt
            have y := h7.2.1
            have y0 := y.cell0; have y1 := y.cell1; have y2 := y.cell2; have f0 := y.free 0; have f1 := y.free 1; have f2 := y.free 2
            obtain ⟨w8, e8, m8, k8, z8⟩ := y.put 0 (k + 1 : Nat) (.slice a6 L6.length c6)
            have H8 := hide (show LoI w D (k + 1) a6 c6 L6 w8 from ⟨h7.1.kept k8 (by omega), m8, (n6.kept k8 l1).weak (by omega), t6, below_of_kept h7.2.2.2.2 k8 (by omega) h7.2.2.2.2.size⟩)
            have E8 := hide e8
            have hL6 : L6.length = k + 1 := by rw [t6.len, ldQ_len (by omega)]
            rw [hL6] at u2 E8 ⊢
            have HL6 := hide hL6
            have hc1 : ((k + 1 : Nat) : Int) = (k : Int) + 1 := by omega
            rw [hc1] at u1 E8 ⊢
            clear h7 y e8 m8 k8 z8 n6 m6 j6 t6 hL6 hc1
            go_frame
            go_wp2_with fail
            rw [← unhide E8]
            go_roundw
            case rel => exact ⟨k + 1, a6, c6, L6, by omega, by omega, by go_num, unhide H8⟩
            case measure => simp [intOf] <;> omega
        · have hl2' : ¬ (220 : Int) < (ds.length : Nat) := by omega
          have et : ds.take 220 = ds := List.take_of_length_le (by omega)
          have SW := hide (show Sr W da (ds.take 220).length dc (bF (gF (ds.take 220))) by rw [et]; exact own_srB (unhide OW))
          have hdc : (ds.take 220).length ≤ dc := by rw [et]; exact hdc0
          have ET2 := hide et
          clear et OW
          go_wp2_with fail
          refine wp_leaves (fun a0 a' w' => ∃ (a6 : Option Addr) (c6 : Nat) (L6 : List Lp) (g8 : Nat), These L6 (ldQ D (k + 1)) ∧ BNew W.heap.size w' a6 c6 L6 ∧ BuAt w' g8 0 (k + 1 : Nat) (.slice a6 L6.length c6) ∧ Below W.heap.size W w' ∧ W.heap.size ≤ g8 ∧ a' = (((((((((((((((((((((((((a0.put (some 38) (busV 0 (k : Nat) (.slice a L.length c))).put (some 39) (.int .i64 (F : Nat))).put (some 40) (.int .i64 (F : Nat))).put (some 41) (.int .i64 (F + 1 : Nat))).put (some 42) (.slice (some ⟨x, o, none⟩) D.length cap)).put (some 43) (.int .i64 (k : Nat))).put (some 44) (.pointer (some ⟨x, o + k * 4, none⟩))).put (some 45) (.pointer (some ⟨x, o + k * 4 + 1, none⟩))).put (some 46) (.int .i64 to)).put (some 50) (.slice da (ds.take 220).length dc)).put (some 51) (.slice (some ⟨x, o, none⟩) D.length cap)).put (some 52) (.int .i64 (k : Nat))).put (some 53) (.pointer (some ⟨x, o + k * 4, none⟩))).put (some 54) (.pointer (some ⟨x, o + k * 4 + 2, none⟩))).put (some 55) (.int .i64 dl)).put (some 8) (.pointer (some ⟨g8, 0, none⟩))).put (some 47) (.int .i64 (T : Nat))).put (some 48) (.int .i64 (F + 1 + T : Nat))).put (some 49) (.int .i64 ((F + 1 + T) % 4 : Nat))).put (some 56) (.int .i64 (E : Nat))).put (some 57) (.tuple #[busV 0 (k + 1 : Nat) (.slice a6 L6.length c6), .int .i64 0])).put (some 37) (.tuple #[busV 0 (k + 1 : Nat) (.slice a6 L6.length c6), .int .i64 0])).put (some 58) (busV 0 (k + 1 : Nat) (.slice a6 L6.length c6))).put (some 59) (.int .i64 0)).put (some 9) (.int .i64 0))) ?reg ?rest
          case reg =>
            intro A eA
            have b0 : A.eval (.tmp 0) = .slice (some ⟨x, o, none⟩) D.length cap := by rw [eA]; rfl
            have b4 : A.eval (.tmp 4) = .pointer (some ⟨w.heap.size + 1, 0, none⟩) := by rw [eA]; rfl
            have b5 : A.eval (.tmp 5) = .int .i64 (k : Nat) := by rw [eA]; rfl
            have b6 : A.eval (.tmp 6) = .int .i64 (F : Nat) := by rw [eA]; rfl
            have b7 : A.eval (.tmp 7) = .slice da (ds.take 220).length dc := by rw [eA]; rw [unhide ET2]; rfl
            have hs : 80 ≤ A.tmps.size := by rw [eA]; exact of_decide_eq_true rfl
            clear eA
            have h0 : BuAt W.drew (w.heap.size + 1) 0 (k : Nat) (.slice a L.length c) ∧ LdAt W.drew x (o + k * 4) ⟨fr, to, dl, ds, ba, bc⟩ := ⟨(unhide HW).2.1, unhide LW⟩
            have hSr : Sr W.drew da (ds.take 220).length dc (bF (gF (ds.take 220))) := unhide SW
            have hBr : BRd W.drew a c L := (unhide HW).2.2.1.1
            have l1 : w.heap.size + 1 < W.heap.size := (unhide HW).2.1.lt
            have l2 : x < W.heap.size := World.block_lt_of_cell? _ _ (unhide LW).1
            refine region_I (S := fun W => BuAt W (w.heap.size + 1) 0 (k : Nat) (.slice a L.length c) ∧ LdAt W x (o + k * 4) ⟨fr, to, dl, ds, ba, bc⟩) (.rd 0 (.rd 1 (.rd 2 (.rd 3 (.rd 4 (.rd 5 (.rd 6 (.rd 7 (.rd 8 (.rd 12 (.rd 13 (.rd 14 (.rd 15 (.rd 16 (.rd 17 (.two 9 23 (.rd 10 (.rd 11 (.two 18 23 (.two 19 23 (.rd 20 (.rd 21 (.rd 22 (.go 23 (.go 24 (.rd 25 .fin)))))) (.go 19 (.rd 20 (.rd 21 (.rd 22 (.go 24 (.rd 25 .fin))))))) (.go 18 (.go 19 (.rd 20 (.rd 21 (.rd 22 (.go 24 (.rd 25 .fin)))))))))) (.go 9 (.rd 10 (.rd 11 (.go 18 (.go 19 (.rd 20 (.rd 21 (.rd 22 (.go 24 (.rd 25 .fin)))))))))))))))))))))))))) [] (by kernel_rfl) (by kernel_rfl) ?_
            refine sI_read (v := (busV 0 (k : Nat) (.slice a L.length c))) rfl (fun _ _ _ h => absurd h.1 (fun e => nomatch e)) (wanted_rd rfl) h0 (fun wx hx => run_lodU (.tmp 4) rfl b4 hx.1) ?_
            show SeqI _ _ _ _ _ _ (Act.put _ (some 38) _) _
            refine sI_read (v := (.int .i64 (F : Nat))) rfl (fun _ _ _ h => absurd h.1 (fun e => nomatch e)) (wanted_rd rfl) h0 (fun wx _ => run_move (.tmp 6) rfl ((ev_other _ _ (by decide)).trans b6) wx) ?_
            show SeqI _ _ _ _ _ _ (Act.put _ (some 39) _) _
            refine sI_read (v := (.int .i64 (F : Nat))) rfl (fun _ _ _ h => absurd h.1 (fun e => nomatch e)) (wanted_rd rfl) h0 (fun wx _ => run_move (.tmp 6) rfl ((ev_other _ _ (by decide)).trans ((ev_other _ _ (by decide)).trans b6)) wx) ?_
            show SeqI _ _ _ _ _ _ (Act.put _ (some 40) _) _
            refine sI_read (v := (.int .i64 (F + 1 : Nat))) rfl (fun _ _ _ h => absurd h.1 (fun e => nomatch e)) (wanted_rd rfl) h0 (fun wx _ => (run_addP (.tmp 40) (.const (.int .i64 1)) rfl (ev_same _ _ _ (by simp only [sz_put]; omega)) rfl (by omega) (by omega) wx).trans (by rw [Int.natCast_add]; rfl)) ?_
            show SeqI _ _ _ _ _ _ (Act.put _ (some 41) _) _
            refine sI_read (v := (.slice (some ⟨x, o, none⟩) D.length cap)) rfl (fun _ _ _ h => absurd h.1 (fun e => nomatch e)) (wanted_rd rfl) h0 (fun wx _ => run_move (.tmp 0) rfl ((ev_other _ _ (by decide)).trans ((ev_other _ _ (by decide)).trans ((ev_other _ _ (by decide)).trans ((ev_other _ _ (by decide)).trans b0)))) wx) ?_
            show SeqI _ _ _ _ _ _ (Act.put _ (some 42) _) _
            refine sI_read (v := (.int .i64 (k : Nat))) rfl (fun _ _ _ h => absurd h.1 (fun e => nomatch e)) (wanted_rd rfl) h0 (fun wx _ => run_move (.tmp 5) rfl ((ev_other _ _ (by decide)).trans ((ev_other _ _ (by decide)).trans ((ev_other _ _ (by decide)).trans ((ev_other _ _ (by decide)).trans ((ev_other _ _ (by decide)).trans b5))))) wx) ?_
            show SeqI _ _ _ _ _ _ (Act.put _ (some 43) _) _
            refine sI_read (v := (.pointer (some ⟨x, o + k * 4, none⟩))) rfl (fun _ _ _ h => absurd h.1 (fun e => nomatch e)) (wanted_rd rfl) h0 (fun wx _ => run_ixL (.tmp 42) (.tmp 43) rfl ((ev_other _ _ (by decide)).trans (ev_same _ _ _ (by simp only [sz_put]; omega))) (ev_same _ _ _ (by simp only [sz_put]; omega)) hin wx) ?_
            show SeqI _ _ _ _ _ _ (Act.put _ (some 44) _) _
            refine sI_read (v := (.pointer (some ⟨x, o + k * 4 + 1, none⟩))) rfl (fun _ _ _ h => absurd h.1 (fun e => nomatch e)) (wanted_rd rfl) h0 (fun wx _ => run_fldL (.tmp 44) 1 rfl (ev_same _ _ _ (by simp only [sz_put]; omega)) (by omega) wx) ?_
            show SeqI _ _ _ _ _ _ (Act.put _ (some 45) _) _
            refine sI_read (v := (.int .i64 to)) rfl (fun _ _ _ h => absurd h.1 (fun e => nomatch e)) (wanted_rd rfl) h0 (fun wx hx => run_lodN (.tmp 45) rfl (ev_same _ _ _ (by simp only [sz_put]; omega)) hx.2.2.1) ?_
            show SeqI _ _ _ _ _ _ (Act.put _ (some 46) _) _
            refine sI_read (v := (.slice da (ds.take 220).length dc)) rfl (fun _ _ _ h => absurd h.1 (fun e => nomatch e)) (wanted_rd rfl) h0 (fun wx _ => run_move (.tmp 7) rfl ((ev_other _ _ (by decide)).trans ((ev_other _ _ (by decide)).trans ((ev_other _ _ (by decide)).trans ((ev_other _ _ (by decide)).trans ((ev_other _ _ (by decide)).trans ((ev_other _ _ (by decide)).trans ((ev_other _ _ (by decide)).trans ((ev_other _ _ (by decide)).trans ((ev_other _ _ (by decide)).trans b7))))))))) wx) ?_
            show SeqI _ _ _ _ _ _ (Act.put _ (some 50) _) _
            refine sI_read (v := (.slice (some ⟨x, o, none⟩) D.length cap)) rfl (fun _ _ _ h => absurd h.1 (fun e => nomatch e)) (wanted_rd rfl) h0 (fun wx _ => run_move (.tmp 0) rfl ((ev_other _ _ (by decide)).trans ((ev_other _ _ (by decide)).trans ((ev_other _ _ (by decide)).trans ((ev_other _ _ (by decide)).trans ((ev_other _ _ (by decide)).trans ((ev_other _ _ (by decide)).trans ((ev_other _ _ (by decide)).trans ((ev_other _ _ (by decide)).trans ((ev_other _ _ (by decide)).trans ((ev_other _ _ (by decide)).trans b0)))))))))) wx) ?_
            show SeqI _ _ _ _ _ _ (Act.put _ (some 51) _) _
            refine sI_read (v := (.int .i64 (k : Nat))) rfl (fun _ _ _ h => absurd h.1 (fun e => nomatch e)) (wanted_rd rfl) h0 (fun wx _ => run_move (.tmp 5) rfl ((ev_other _ _ (by decide)).trans ((ev_other _ _ (by decide)).trans ((ev_other _ _ (by decide)).trans ((ev_other _ _ (by decide)).trans ((ev_other _ _ (by decide)).trans ((ev_other _ _ (by decide)).trans ((ev_other _ _ (by decide)).trans ((ev_other _ _ (by decide)).trans ((ev_other _ _ (by decide)).trans ((ev_other _ _ (by decide)).trans ((ev_other _ _ (by decide)).trans b5))))))))))) wx) ?_
            show SeqI _ _ _ _ _ _ (Act.put _ (some 52) _) _
            refine sI_read (v := (.pointer (some ⟨x, o + k * 4, none⟩))) rfl (fun _ _ _ h => absurd h.1 (fun e => nomatch e)) (wanted_rd rfl) h0 (fun wx _ => run_ixL (.tmp 51) (.tmp 52) rfl ((ev_other _ _ (by decide)).trans (ev_same _ _ _ (by simp only [sz_put]; omega))) (ev_same _ _ _ (by simp only [sz_put]; omega)) hin wx) ?_
            show SeqI _ _ _ _ _ _ (Act.put _ (some 53) _) _
            refine sI_read (v := (.pointer (some ⟨x, o + k * 4 + 2, none⟩))) rfl (fun _ _ _ h => absurd h.1 (fun e => nomatch e)) (wanted_rd rfl) h0 (fun wx _ => run_fldL (.tmp 53) 2 rfl (ev_same _ _ _ (by simp only [sz_put]; omega)) (by omega) wx) ?_
            show SeqI _ _ _ _ _ _ (Act.put _ (some 54) _) _
            refine sI_read (v := (.int .i64 dl)) rfl (fun _ _ _ h => absurd h.1 (fun e => nomatch e)) (wanted_rd rfl) h0 (fun wx hx => run_lodN (.tmp 54) rfl (ev_same _ _ _ (by simp only [sz_put]; omega)) hx.2.2.2.1) ?_
            show SeqI _ _ _ _ _ _ (Act.put _ (some 55) _) _
            refine sI_two rfl rfl (wanted_rd rfl) (wanted_rd rfl) ?_ ?_
            · intro K hK
              refine wp_call2 _ 7 (.tmp 46) (.const (.int .i64 3)) _ rfl ((ev_other _ _ (by decide)).trans ((ev_other _ _ (by decide)).trans ((ev_other _ _ (by decide)).trans ((ev_other _ _ (by decide)).trans ((ev_other _ _ (by decide)).trans ((ev_other _ _ (by decide)).trans (ev_same _ _ _ (by simp only [sz_put]; omega)))))))) rfl (enter_spot _ _ _) (spF_any to 3 (by omega) (by omega) _) ?_
              rw [← unhide ET]
              rintro e wq ⟨rfl, hq⟩
              obtain rfl : W.drew = wq := hq.symm
              refine ⟨_, rfl, ?_⟩
              refine hK _ _ (fun _ => h0) ?_
              clear hK K
              show SeqI _ _ _ _ _ _ (Act.put _ (some 47) _) _
              refine sI_read (v := (.int .i64 (F + 1 + T : Nat))) rfl (fun _ _ _ h => absurd h.1 (fun e => nomatch e)) (wanted_rd rfl) h0 (fun wx _ => (run_addP (.tmp 41) (.tmp 47) rfl ((ev_other _ _ (by decide)).trans ((ev_other _ _ (by decide)).trans ((ev_other _ _ (by decide)).trans ((ev_other _ _ (by decide)).trans ((ev_other _ _ (by decide)).trans ((ev_other _ _ (by decide)).trans ((ev_other _ _ (by decide)).trans ((ev_other _ _ (by decide)).trans ((ev_other _ _ (by decide)).trans ((ev_other _ _ (by decide)).trans ((ev_other _ _ (by decide)).trans ((ev_other _ _ (by decide)).trans (ev_same _ _ _ (by simp only [sz_put]; omega)))))))))))))) (ev_same _ _ _ (by simp only [sz_put]; omega)) (by omega) (by omega) wx).trans (by rw [← Int.natCast_add])) ?_
              show SeqI _ _ _ _ _ _ (Act.put _ (some 48) _) _
              refine sI_read (v := (.int .i64 ((F + 1 + T) % 4 : Nat))) rfl (fun _ _ _ h => absurd h.1 (fun e => nomatch e)) (wanted_rd rfl) h0 (fun wx _ => run_rem4 (.tmp 48) (.const (.int .i64 4)) rfl (ev_same _ _ _ (by simp only [sz_put]; omega)) rfl (by omega) wx) ?_
              show SeqI _ _ _ _ _ _ (Act.put _ (some 49) _) _
              refine sI_two rfl rfl (wanted_rd rfl) (wanted_rd rfl) ?_ ?_
              · intro K hK
                refine wp_call2 _ 7 (.tmp 55) (.const (.int .i64 1001)) _ rfl ((ev_other _ _ (by decide)).trans ((ev_other _ _ (by decide)).trans ((ev_other _ _ (by decide)).trans (ev_same _ _ _ (by simp only [sz_put]; omega))))) rfl (enter_spot _ _ _) (spF_any dl 1001 (by omega) (by omega) _) ?_
                rw [← unhide ED]
                rintro e wq ⟨rfl, hq⟩
                obtain rfl : W.drew = wq := hq.symm
                refine ⟨_, rfl, ?_⟩
                refine hK _ _ (fun _ => h0) ?_
                clear hK K
                show SeqI _ _ _ _ _ _ (Act.put _ (some 56) _) _
                refine sI_two rfl rfl (wanted_rd rfl) (wanted_rd rfl) ?_ ?_
                · intro K hK
                  refine wp_call5 _ 12 (.tmp 38) (.tmp 39) (.tmp 49) (.tmp 50) (.tmp 56) _ rfl ((ev_other _ _ (by decide)).trans ((ev_other _ _ (by decide)).trans ((ev_other _ _ (by decide)).trans ((ev_other _ _ (by decide)).trans ((ev_other _ _ (by decide)).trans ((ev_other _ _ (by decide)).trans ((ev_other _ _ (by decide)).trans ((ev_other _ _ (by decide)).trans ((ev_other _ _ (by decide)).trans ((ev_other _ _ (by decide)).trans ((ev_other _ _ (by decide)).trans ((ev_other _ _ (by decide)).trans ((ev_other _ _ (by decide)).trans ((ev_other _ _ (by decide)).trans ((ev_other _ _ (by decide)).trans ((ev_other _ _ (by decide)).trans ((ev_other _ _ (by decide)).trans ((ev_other _ _ (by decide)).trans (ev_same _ _ _ (by omega)))))))))))))))))))) ((ev_other _ _ (by decide)).trans ((ev_other _ _ (by decide)).trans ((ev_other _ _ (by decide)).trans ((ev_other _ _ (by decide)).trans ((ev_other _ _ (by decide)).trans ((ev_other _ _ (by decide)).trans ((ev_other _ _ (by decide)).trans ((ev_other _ _ (by decide)).trans ((ev_other _ _ (by decide)).trans ((ev_other _ _ (by decide)).trans ((ev_other _ _ (by decide)).trans ((ev_other _ _ (by decide)).trans ((ev_other _ _ (by decide)).trans ((ev_other _ _ (by decide)).trans ((ev_other _ _ (by decide)).trans ((ev_other _ _ (by decide)).trans ((ev_other _ _ (by decide)).trans (ev_same _ _ _ (by simp only [sz_put]; omega))))))))))))))))))) ((ev_other _ _ (by decide)).trans (ev_same _ _ _ (by simp only [sz_put]; omega))) ((ev_other _ _ (by decide)).trans ((ev_other _ _ (by decide)).trans ((ev_other _ _ (by decide)).trans ((ev_other _ _ (by decide)).trans ((ev_other _ _ (by decide)).trans ((ev_other _ _ (by decide)).trans ((ev_other _ _ (by decide)).trans ((ev_other _ _ (by decide)).trans ((ev_other _ _ (by decide)).trans (ev_same _ _ _ (by simp only [sz_put]; omega))))))))))) (ev_same _ _ _ (by simp only [sz_put]; omega)) (enter_send _ _ _ _ _ _) (hS ⟨0, (k : Nat), ldQ D k⟩ a c L (F : Nat) ((F + 1 + T) % 4 : Nat) (E : Nat) da dc (ds.take 220) _ (unhide BO) (unhide TL) hBr (by unfold R64; omega) (by unfold R64; omega) (by unfold R64; omega) hSr hdc (unhide D256) hd2) ?_
                  rw [(unhide SN).1, (unhide SN).2]
                  dsimp only
                  rintro e w1 ⟨a6, c6, L6, rfl, t6, n1, k1⟩
                  have h1 : (BuAt w1 (w.heap.size + 1) 0 (k : Nat) (.slice a L.length c) ∧ LdAt w1 x (o + k * 4) ⟨fr, to, dl, ds, ba, bc⟩) := ⟨h0.1.below k1, h0.2.below k1⟩
                  have j1 : Below W.drew.heap.size W.drew w1 := (Below.refl W.drew.heap.size W.drew).trans (k1.mono (Below.refl W.drew.heap.size W.drew).size)
                  refine ⟨_, rfl, ?_⟩
                  refine hK _ _ (fun _ => h1) ?_
                  clear hK K
                  show SeqI _ _ _ _ _ _ (Act.put _ (some 57) _) _
                  refine sI_read (v := (.tuple #[busV 0 (k + 1 : Nat) (.slice a6 L6.length c6), .int .i64 0])) rfl (fun _ _ _ h => absurd h.1 (fun e => nomatch e)) (wanted_rd rfl) h1 (fun wx _ => run_move (.tmp 57) rfl (ev_same _ _ _ (by simp only [sz_put]; omega)) wx) ?_
                  show SeqI _ _ _ _ _ _ (Act.put _ (some 37) _) _
                  refine sI_read (v := (busV 0 (k + 1 : Nat) (.slice a6 L6.length c6))) rfl (fun _ _ _ h => absurd h.1 (fun e => nomatch e)) (wanted_rd rfl) h1 (fun wx _ => run_get2 (.tmp 37) 0 rfl (ev_same _ _ _ (by simp only [sz_put]; omega)) rfl wx) ?_
                  show SeqI _ _ _ _ _ _ (Act.put _ (some 58) _) _
                  refine sI_read (v := (.int .i64 0)) rfl (fun _ _ _ h => absurd h.1 (fun e => nomatch e)) (wanted_rd rfl) h1 (fun wx _ => run_get2 (.tmp 37) 1 rfl ((ev_other _ _ (by decide)).trans (ev_same _ _ _ (by simp only [sz_put]; omega))) rfl wx) ?_
                  show SeqI _ _ _ _ _ _ (Act.put _ (some 59) _) _
                  refine sI_do rfl (wanted_rd rfl) (fun K hK => ?_)
                  refine wp_allocU _ rfl ?_
                  intro w2 m2 k2 z2
                  have h2 : (BuAt w2 (w.heap.size + 1) 0 (k : Nat) (.slice a L.length c) ∧ LdAt w2 x (o + k * 4) ⟨fr, to, dl, ds, ba, bc⟩) := ⟨h1.1.below k2, h1.2.below k2⟩
                  have j2 : Below W.drew.heap.size W.drew w2 := j1.trans (k2.mono j1.size)
                  have hg : W.heap.size ≤ w1.heap.size := j1.size
                  have lb := k2
                  refine hK _ _ (fun _ => h2) ?_
                  clear hK K
                  show SeqI _ _ _ _ _ _ (Act.put _ (some 8) _) _
                  refine sI_do rfl (wanted_rd rfl) (fun K hK => ?_)
                  refine wp_storeU _ (.tmp 8) (.tmp 58) rfl (ev_same _ _ _ (by simp only [sz_put]; omega)) ((ev_other _ _ (by decide)).trans ((ev_other _ _ (by decide)).trans (ev_same _ _ _ (by simp only [sz_put]; omega)))) m2 rfl ?_
                  intro w3 m3 k3 z3
                  have h3 : (BuAt w3 (w.heap.size + 1) 0 (k : Nat) (.slice a L.length c) ∧ LdAt w3 x (o + k * 4) ⟨fr, to, dl, ds, ba, bc⟩) := ⟨h2.1.kept k3 (by omega), h2.2.kept k3 (by omega)⟩
                  refine hK _ _ (fun _ => h3) ?_
                  clear hK K
                  refine sI_read (v := (.int .i64 0)) rfl (fun _ _ _ h => absurd h.1 (fun e => nomatch e)) (wanted_rd rfl) h3 (fun wx _ => run_assign (.tmp 59) rfl ((ev_other _ _ (by decide)).trans (ev_same _ _ _ (by simp only [sz_put]; omega))) wx) ?_
                  show SeqI _ _ _ _ _ _ (Act.put _ (some 9) _) _
                  have jj : Below W.heap.size W w3 := below_of_kept ((below_drew (Below.refl _ _)).trans (show Below W.heap.size W.drew w2 from j2)) k3 hg (show W.heap.size ≤ w2.heap.size from j2.size)
                  exact sI_end ⟨rfl, a6, c6, L6, w1.heap.size, t6, (n1.below (below_of_kept lb k3 (Nat.le_refl _) lb.size)).weak (show W.heap.size ≤ W.drew.heap.size from (Below.refl W.drew.heap.size W.drew).size), m3, jj, hg, (by rw [put_swap _ 59 8 _ _ (by decide), put_swap _ 58 8 _ _ (by decide), put_swap _ 37 8 _ _ (by decide), put_swap _ 57 8 _ _ (by decide), put_swap _ 56 8 _ _ (by decide), put_swap _ 49 8 _ _ (by decide), put_swap _ 48 8 _ _ (by decide), put_swap _ 47 8 _ _ (by decide)]; first | done | rfl)⟩
                · intro K hK
                  refine wp_allocU _ rfl ?_
                  intro w1 m1 k1 z1
                  have h1 : (BuAt w1 (w.heap.size + 1) 0 (k : Nat) (.slice a L.length c) ∧ LdAt w1 x (o + k * 4) ⟨fr, to, dl, ds, ba, bc⟩) := ⟨h0.1.below k1, h0.2.below k1⟩
                  have j1 : Below W.drew.heap.size W.drew w1 := (Below.refl W.drew.heap.size W.drew).trans (k1.mono (Below.refl W.drew.heap.size W.drew).size)
                  have hg : W.heap.size ≤ W.drew.heap.size := (Below.refl W.drew.heap.size W.drew).size
                  refine hK _ _ (fun _ => h1) ?_
                  clear hK K
                  show SeqI _ _ _ _ _ _ (Act.put _ (some 8) _) _
                  refine sI_do rfl (wanted_rd rfl) (fun K hK => ?_)
                  refine wp_call5 _ 12 (.tmp 38) (.tmp 39) (.tmp 49) (.tmp 50) (.tmp 56) _ rfl ((ev_other _ _ (by decide)).trans ((ev_other _ _ (by decide)).trans ((ev_other _ _ (by decide)).trans ((ev_other _ _ (by decide)).trans ((ev_other _ _ (by decide)).trans ((ev_other _ _ (by decide)).trans ((ev_other _ _ (by decide)).trans ((ev_other _ _ (by decide)).trans ((ev_other _ _ (by decide)).trans ((ev_other _ _ (by decide)).trans ((ev_other _ _ (by decide)).trans ((ev_other _ _ (by decide)).trans ((ev_other _ _ (by decide)).trans ((ev_other _ _ (by decide)).trans ((ev_other _ _ (by decide)).trans ((ev_other _ _ (by decide)).trans ((ev_other _ _ (by decide)).trans ((ev_other _ _ (by decide)).trans ((ev_other _ _ (by decide)).trans (ev_same _ _ _ (by omega))))))))))))))))))))) ((ev_other _ _ (by decide)).trans ((ev_other _ _ (by decide)).trans ((ev_other _ _ (by decide)).trans ((ev_other _ _ (by decide)).trans ((ev_other _ _ (by decide)).trans ((ev_other _ _ (by decide)).trans ((ev_other _ _ (by decide)).trans ((ev_other _ _ (by decide)).trans ((ev_other _ _ (by decide)).trans ((ev_other _ _ (by decide)).trans ((ev_other _ _ (by decide)).trans ((ev_other _ _ (by decide)).trans ((ev_other _ _ (by decide)).trans ((ev_other _ _ (by decide)).trans ((ev_other _ _ (by decide)).trans ((ev_other _ _ (by decide)).trans ((ev_other _ _ (by decide)).trans ((ev_other _ _ (by decide)).trans (ev_same _ _ _ (by simp only [sz_put]; omega)))))))))))))))))))) ((ev_other _ _ (by decide)).trans ((ev_other _ _ (by decide)).trans (ev_same _ _ _ (by simp only [sz_put]; omega)))) ((ev_other _ _ (by decide)).trans ((ev_other _ _ (by decide)).trans ((ev_other _ _ (by decide)).trans ((ev_other _ _ (by decide)).trans ((ev_other _ _ (by decide)).trans ((ev_other _ _ (by decide)).trans ((ev_other _ _ (by decide)).trans ((ev_other _ _ (by decide)).trans ((ev_other _ _ (by decide)).trans ((ev_other _ _ (by decide)).trans (ev_same _ _ _ (by simp only [sz_put]; omega)))))))))))) ((ev_other _ _ (by decide)).trans (ev_same _ _ _ (by simp only [sz_put]; omega))) (enter_send _ _ _ _ _ _) (hS ⟨0, (k : Nat), ldQ D k⟩ a c L (F : Nat) ((F + 1 + T) % 4 : Nat) (E : Nat) da dc (ds.take 220) _ (unhide BO) (unhide TL) (hBr.below j1) (by unfold R64; omega) (by unfold R64; omega) (by unfold R64; omega) (hSr.below j1) hdc (unhide D256) hd2) ?_
                  rw [(unhide SN).1, (unhide SN).2]
                  dsimp only
                  rintro e w2 ⟨a6, c6, L6, rfl, t6, n2, k2⟩
                  have h2 : (BuAt w2 (w.heap.size + 1) 0 (k : Nat) (.slice a L.length c) ∧ LdAt w2 x (o + k * 4) ⟨fr, to, dl, ds, ba, bc⟩) := ⟨h1.1.below k2, h1.2.below k2⟩
                  have j2 : Below W.drew.heap.size W.drew w2 := j1.trans (k2.mono j1.size)
                  have m2 := m1.below k2
                  refine ⟨_, rfl, ?_⟩
                  refine hK _ _ (fun _ => h2) ?_
                  clear hK K
                  show SeqI _ _ _ _ _ _ (Act.put _ (some 57) _) _
                  refine sI_read (v := (.tuple #[busV 0 (k + 1 : Nat) (.slice a6 L6.length c6), .int .i64 0])) rfl (fun _ _ _ h => absurd h.1 (fun e => nomatch e)) (wanted_rd rfl) h2 (fun wx _ => run_move (.tmp 57) rfl (ev_same _ _ _ (by simp only [sz_put]; omega)) wx) ?_
                  show SeqI _ _ _ _ _ _ (Act.put _ (some 37) _) _
                  refine sI_read (v := (busV 0 (k + 1 : Nat) (.slice a6 L6.length c6))) rfl (fun _ _ _ h => absurd h.1 (fun e => nomatch e)) (wanted_rd rfl) h2 (fun wx _ => run_get2 (.tmp 37) 0 rfl (ev_same _ _ _ (by simp only [sz_put]; omega)) rfl wx) ?_
                  show SeqI _ _ _ _ _ _ (Act.put _ (some 58) _) _
                  refine sI_read (v := (.int .i64 0)) rfl (fun _ _ _ h => absurd h.1 (fun e => nomatch e)) (wanted_rd rfl) h2 (fun wx _ => run_get2 (.tmp 37) 1 rfl ((ev_other _ _ (by decide)).trans (ev_same _ _ _ (by simp only [sz_put]; omega))) rfl wx) ?_
                  show SeqI _ _ _ _ _ _ (Act.put _ (some 59) _) _
                  refine sI_do rfl (wanted_rd rfl) (fun K hK => ?_)
                  refine wp_storeU _ (.tmp 8) (.tmp 58) rfl ((ev_other _ _ (by decide)).trans ((ev_other _ _ (by decide)).trans ((ev_other _ _ (by decide)).trans ((ev_other _ _ (by decide)).trans (ev_same _ _ _ (by simp only [sz_put]; omega)))))) ((ev_other _ _ (by decide)).trans (ev_same _ _ _ (by simp only [sz_put]; omega))) m2 rfl ?_
                  intro w3 m3 k3 z3
                  have h3 : (BuAt w3 (w.heap.size + 1) 0 (k : Nat) (.slice a L.length c) ∧ LdAt w3 x (o + k * 4) ⟨fr, to, dl, ds, ba, bc⟩) := ⟨h2.1.kept k3 (by omega), h2.2.kept k3 (by omega)⟩
                  refine hK _ _ (fun _ => h3) ?_
                  clear hK K
                  refine sI_read (v := (.int .i64 0)) rfl (fun _ _ _ h => absurd h.1 (fun e => nomatch e)) (wanted_rd rfl) h3 (fun wx _ => run_assign (.tmp 59) rfl (ev_same _ _ _ (by simp only [sz_put]; omega)) wx) ?_
                  show SeqI _ _ _ _ _ _ (Act.put _ (some 9) _) _
                  have jj : Below W.heap.size W w3 := below_of_kept ((below_drew (Below.refl _ _)).trans (show Below W.heap.size W.drew w2 from j2)) k3 hg (show W.heap.size ≤ w2.heap.size from j2.size)
                  exact sI_end ⟨rfl, a6, c6, L6, W.drew.heap.size, t6, (n2.kept k3 (by omega)).weak (show W.heap.size ≤ w1.heap.size from j1.size), m3, jj, hg, (by rw [put_swap _ 56 8 _ _ (by decide), put_swap _ 49 8 _ _ (by decide), put_swap _ 48 8 _ _ (by decide), put_swap _ 47 8 _ _ (by decide)]; first | done | rfl)⟩
              · intro K hK
                refine wp_allocU _ rfl ?_
                intro w1 m1 k1 z1
                have h1 : (BuAt w1 (w.heap.size + 1) 0 (k : Nat) (.slice a L.length c) ∧ LdAt w1 x (o + k * 4) ⟨fr, to, dl, ds, ba, bc⟩) := ⟨h0.1.below k1, h0.2.below k1⟩
                have j1 : Below W.drew.heap.size W.drew w1 := (Below.refl W.drew.heap.size W.drew).trans (k1.mono (Below.refl W.drew.heap.size W.drew).size)
                have hg : W.heap.size ≤ W.drew.heap.size := (Below.refl W.drew.heap.size W.drew).size
                refine hK _ _ (fun _ => h1) ?_
                clear hK K
                show SeqI _ _ _ _ _ _ (Act.put _ (some 8) _) _
                refine sI_do rfl (wanted_rd rfl) (fun K hK => ?_)
                refine wp_call2 _ 7 (.tmp 55) (.const (.int .i64 1001)) _ rfl ((ev_other _ _ (by decide)).trans ((ev_other _ _ (by decide)).trans ((ev_other _ _ (by decide)).trans ((ev_other _ _ (by decide)).trans (ev_same _ _ _ (by simp only [sz_put]; omega)))))) rfl (enter_spot _ _ _) (spF_any dl 1001 (by omega) (by omega) _) ?_
                rw [← unhide ED]
                rintro e wq ⟨rfl, hq⟩
                obtain rfl : w1 = wq := hq.symm
                refine ⟨_, rfl, ?_⟩
                refine hK _ _ (fun _ => h1) ?_
                clear hK K
                show SeqI _ _ _ _ _ _ (Act.put _ (some 56) _) _
                refine sI_do rfl (wanted_rd rfl) (fun K hK => ?_)
                refine wp_call5 _ 12 (.tmp 38) (.tmp 39) (.tmp 49) (.tmp 50) (.tmp 56) _ rfl ((ev_other _ _ (by decide)).trans ((ev_other _ _ (by decide)).trans ((ev_other _ _ (by decide)).trans ((ev_other _ _ (by decide)).trans ((ev_other _ _ (by decide)).trans ((ev_other _ _ (by decide)).trans ((ev_other _ _ (by decide)).trans ((ev_other _ _ (by decide)).trans ((ev_other _ _ (by decide)).trans ((ev_other _ _ (by decide)).trans ((ev_other _ _ (by decide)).trans ((ev_other _ _ (by decide)).trans ((ev_other _ _ (by decide)).trans ((ev_other _ _ (by decide)).trans ((ev_other _ _ (by decide)).trans ((ev_other _ _ (by decide)).trans ((ev_other _ _ (by decide)).trans ((ev_other _ _ (by decide)).trans ((ev_other _ _ (by decide)).trans (ev_same _ _ _ (by omega))))))))))))))))))))) ((ev_other _ _ (by decide)).trans ((ev_other _ _ (by decide)).trans ((ev_other _ _ (by decide)).trans ((ev_other _ _ (by decide)).trans ((ev_other _ _ (by decide)).trans ((ev_other _ _ (by decide)).trans ((ev_other _ _ (by decide)).trans ((ev_other _ _ (by decide)).trans ((ev_other _ _ (by decide)).trans ((ev_other _ _ (by decide)).trans ((ev_other _ _ (by decide)).trans ((ev_other _ _ (by decide)).trans ((ev_other _ _ (by decide)).trans ((ev_other _ _ (by decide)).trans ((ev_other _ _ (by decide)).trans ((ev_other _ _ (by decide)).trans ((ev_other _ _ (by decide)).trans ((ev_other _ _ (by decide)).trans (ev_same _ _ _ (by simp only [sz_put]; omega)))))))))))))))))))) ((ev_other _ _ (by decide)).trans ((ev_other _ _ (by decide)).trans (ev_same _ _ _ (by simp only [sz_put]; omega)))) ((ev_other _ _ (by decide)).trans ((ev_other _ _ (by decide)).trans ((ev_other _ _ (by decide)).trans ((ev_other _ _ (by decide)).trans ((ev_other _ _ (by decide)).trans ((ev_other _ _ (by decide)).trans ((ev_other _ _ (by decide)).trans ((ev_other _ _ (by decide)).trans ((ev_other _ _ (by decide)).trans ((ev_other _ _ (by decide)).trans (ev_same _ _ _ (by simp only [sz_put]; omega)))))))))))) (ev_same _ _ _ (by simp only [sz_put]; omega)) (enter_send _ _ _ _ _ _) (hS ⟨0, (k : Nat), ldQ D k⟩ a c L (F : Nat) ((F + 1 + T) % 4 : Nat) (E : Nat) da dc (ds.take 220) _ (unhide BO) (unhide TL) (hBr.below j1) (by unfold R64; omega) (by unfold R64; omega) (by unfold R64; omega) (hSr.below j1) hdc (unhide D256) hd2) ?_
                rw [(unhide SN).1, (unhide SN).2]
                dsimp only
                rintro e w2 ⟨a6, c6, L6, rfl, t6, n2, k2⟩
                have h2 : (BuAt w2 (w.heap.size + 1) 0 (k : Nat) (.slice a L.length c) ∧ LdAt w2 x (o + k * 4) ⟨fr, to, dl, ds, ba, bc⟩) := ⟨h1.1.below k2, h1.2.below k2⟩
                have j2 : Below W.drew.heap.size W.drew w2 := j1.trans (k2.mono j1.size)
                have m2 := m1.below k2
                refine ⟨_, rfl, ?_⟩
                refine hK _ _ (fun _ => h2) ?_
                clear hK K
                show SeqI _ _ _ _ _ _ (Act.put _ (some 57) _) _
                refine sI_read (v := (.tuple #[busV 0 (k + 1 : Nat) (.slice a6 L6.length c6), .int .i64 0])) rfl (fun _ _ _ h => absurd h.1 (fun e => nomatch e)) (wanted_rd rfl) h2 (fun wx _ => run_move (.tmp 57) rfl (ev_same _ _ _ (by simp only [sz_put]; omega)) wx) ?_
                show SeqI _ _ _ _ _ _ (Act.put _ (some 37) _) _
                refine sI_read (v := (busV 0 (k + 1 : Nat) (.slice a6 L6.length c6))) rfl (fun _ _ _ h => absurd h.1 (fun e => nomatch e)) (wanted_rd rfl) h2 (fun wx _ => run_get2 (.tmp 37) 0 rfl (ev_same _ _ _ (by simp only [sz_put]; omega)) rfl wx) ?_
                show SeqI _ _ _ _ _ _ (Act.put _ (some 58) _) _
                refine sI_read (v := (.int .i64 0)) rfl (fun _ _ _ h => absurd h.1 (fun e => nomatch e)) (wanted_rd rfl) h2 (fun wx _ => run_get2 (.tmp 37) 1 rfl ((ev_other _ _ (by decide)).trans (ev_same _ _ _ (by simp only [sz_put]; omega))) rfl wx) ?_
                show SeqI _ _ _ _ _ _ (Act.put _ (some 59) _) _
                refine sI_do rfl (wanted_rd rfl) (fun K hK => ?_)
                refine wp_storeU _ (.tmp 8) (.tmp 58) rfl ((ev_other _ _ (by decide)).trans ((ev_other _ _ (by decide)).trans ((ev_other _ _ (by decide)).trans ((ev_other _ _ (by decide)).trans ((ev_other _ _ (by decide)).trans (ev_same _ _ _ (by simp only [sz_put]; omega))))))) ((ev_other _ _ (by decide)).trans (ev_same _ _ _ (by simp only [sz_put]; omega))) m2 rfl ?_
                intro w3 m3 k3 z3
                have h3 : (BuAt w3 (w.heap.size + 1) 0 (k : Nat) (.slice a L.length c) ∧ LdAt w3 x (o + k * 4) ⟨fr, to, dl, ds, ba, bc⟩) := ⟨h2.1.kept k3 (by omega), h2.2.kept k3 (by omega)⟩
                refine hK _ _ (fun _ => h3) ?_
                clear hK K
                refine sI_read (v := (.int .i64 0)) rfl (fun _ _ _ h => absurd h.1 (fun e => nomatch e)) (wanted_rd rfl) h3 (fun wx _ => run_assign (.tmp 59) rfl (ev_same _ _ _ (by simp only [sz_put]; omega)) wx) ?_
                show SeqI _ _ _ _ _ _ (Act.put _ (some 9) _) _
                have jj : Below W.heap.size W w3 := below_of_kept ((below_drew (Below.refl _ _)).trans (show Below W.heap.size W.drew w2 from j2)) k3 hg (show W.heap.size ≤ w2.heap.size from j2.size)
                exact sI_end ⟨rfl, a6, c6, L6, W.drew.heap.size, t6, (n2.kept k3 (by omega)).weak (show W.heap.size ≤ w1.heap.size from j1.size), m3, jj, hg, (by rw [put_swap _ 49 8 _ _ (by decide), put_swap _ 48 8 _ _ (by decide), put_swap _ 47 8 _ _ (by decide)]; first | done | rfl)⟩
            · intro K hK
              refine wp_allocU _ rfl ?_
              intro w1 m1 k1 z1
              have h1 : (BuAt w1 (w.heap.size + 1) 0 (k : Nat) (.slice a L.length c) ∧ LdAt w1 x (o + k * 4) ⟨fr, to, dl, ds, ba, bc⟩) := ⟨h0.1.below k1, h0.2.below k1⟩
              have j1 : Below W.drew.heap.size W.drew w1 := (Below.refl W.drew.heap.size W.drew).trans (k1.mono (Below.refl W.drew.heap.size W.drew).size)
              have hg : W.heap.size ≤ W.drew.heap.size := (Below.refl W.drew.heap.size W.drew).size
              refine hK _ _ (fun _ => h1) ?_
              clear hK K
              show SeqI _ _ _ _ _ _ (Act.put _ (some 8) _) _
              refine sI_do rfl (wanted_rd rfl) (fun K hK => ?_)
              refine wp_call2 _ 7 (.tmp 46) (.const (.int .i64 3)) _ rfl ((ev_other _ _ (by decide)).trans ((ev_other _ _ (by decide)).trans ((ev_other _ _ (by decide)).trans ((ev_other _ _ (by decide)).trans ((ev_other _ _ (by decide)).trans ((ev_other _ _ (by decide)).trans ((ev_other _ _ (by decide)).trans (ev_same _ _ _ (by simp only [sz_put]; omega))))))))) rfl (enter_spot _ _ _) (spF_any to 3 (by omega) (by omega) _) ?_
              rw [← unhide ET]
              rintro e wq ⟨rfl, hq⟩
              obtain rfl : w1 = wq := hq.symm
              refine ⟨_, rfl, ?_⟩
              refine hK _ _ (fun _ => h1) ?_
              clear hK K
              show SeqI _ _ _ _ _ _ (Act.put _ (some 47) _) _
              refine sI_read (v := (.int .i64 (F + 1 + T : Nat))) rfl (fun _ _ _ h => absurd h.1 (fun e => nomatch e)) (wanted_rd rfl) h1 (fun wx _ => (run_addP (.tmp 41) (.tmp 47) rfl ((ev_other _ _ (by decide)).trans ((ev_other _ _ (by decide)).trans ((ev_other _ _ (by decide)).trans ((ev_other _ _ (by decide)).trans ((ev_other _ _ (by decide)).trans ((ev_other _ _ (by decide)).trans ((ev_other _ _ (by decide)).trans ((ev_other _ _ (by decide)).trans ((ev_other _ _ (by decide)).trans ((ev_other _ _ (by decide)).trans ((ev_other _ _ (by decide)).trans ((ev_other _ _ (by decide)).trans ((ev_other _ _ (by decide)).trans (ev_same _ _ _ (by simp only [sz_put]; omega))))))))))))))) (ev_same _ _ _ (by simp only [sz_put]; omega)) (by omega) (by omega) wx).trans (by rw [← Int.natCast_add])) ?_
              show SeqI _ _ _ _ _ _ (Act.put _ (some 48) _) _
              refine sI_read (v := (.int .i64 ((F + 1 + T) % 4 : Nat))) rfl (fun _ _ _ h => absurd h.1 (fun e => nomatch e)) (wanted_rd rfl) h1 (fun wx _ => run_rem4 (.tmp 48) (.const (.int .i64 4)) rfl (ev_same _ _ _ (by simp only [sz_put]; omega)) rfl (by omega) wx) ?_
              show SeqI _ _ _ _ _ _ (Act.put _ (some 49) _) _
              refine sI_do rfl (wanted_rd rfl) (fun K hK => ?_)
              refine wp_call2 _ 7 (.tmp 55) (.const (.int .i64 1001)) _ rfl ((ev_other _ _ (by decide)).trans ((ev_other _ _ (by decide)).trans ((ev_other _ _ (by decide)).trans ((ev_other _ _ (by decide)).trans (ev_same _ _ _ (by simp only [sz_put]; omega)))))) rfl (enter_spot _ _ _) (spF_any dl 1001 (by omega) (by omega) _) ?_
              rw [← unhide ED]
              rintro e wq ⟨rfl, hq⟩
              obtain rfl : w1 = wq := hq.symm
              refine ⟨_, rfl, ?_⟩
              refine hK _ _ (fun _ => h1) ?_
              clear hK K
              show SeqI _ _ _ _ _ _ (Act.put _ (some 56) _) _
              refine sI_do rfl (wanted_rd rfl) (fun K hK => ?_)
              refine wp_call5 _ 12 (.tmp 38) (.tmp 39) (.tmp 49) (.tmp 50) (.tmp 56) _ rfl ((ev_other _ _ (by decide)).trans ((ev_other _ _ (by decide)).trans ((ev_other _ _ (by decide)).trans ((ev_other _ _ (by decide)).trans ((ev_other _ _ (by decide)).trans ((ev_other _ _ (by decide)).trans ((ev_other _ _ (by decide)).trans ((ev_other _ _ (by decide)).trans ((ev_other _ _ (by decide)).trans ((ev_other _ _ (by decide)).trans ((ev_other _ _ (by decide)).trans ((ev_other _ _ (by decide)).trans ((ev_other _ _ (by decide)).trans ((ev_other _ _ (by decide)).trans ((ev_other _ _ (by decide)).trans ((ev_other _ _ (by decide)).trans ((ev_other _ _ (by decide)).trans ((ev_other _ _ (by decide)).trans ((ev_other _ _ (by decide)).trans (ev_same _ _ _ (by omega))))))))))))))))))))) ((ev_other _ _ (by decide)).trans ((ev_other _ _ (by decide)).trans ((ev_other _ _ (by decide)).trans ((ev_other _ _ (by decide)).trans ((ev_other _ _ (by decide)).trans ((ev_other _ _ (by decide)).trans ((ev_other _ _ (by decide)).trans ((ev_other _ _ (by decide)).trans ((ev_other _ _ (by decide)).trans ((ev_other _ _ (by decide)).trans ((ev_other _ _ (by decide)).trans ((ev_other _ _ (by decide)).trans ((ev_other _ _ (by decide)).trans ((ev_other _ _ (by decide)).trans ((ev_other _ _ (by decide)).trans ((ev_other _ _ (by decide)).trans ((ev_other _ _ (by decide)).trans ((ev_other _ _ (by decide)).trans (ev_same _ _ _ (by simp only [sz_put]; omega)))))))))))))))))))) ((ev_other _ _ (by decide)).trans (ev_same _ _ _ (by simp only [sz_put]; omega))) ((ev_other _ _ (by decide)).trans ((ev_other _ _ (by decide)).trans ((ev_other _ _ (by decide)).trans ((ev_other _ _ (by decide)).trans ((ev_other _ _ (by decide)).trans ((ev_other _ _ (by decide)).trans ((ev_other _ _ (by decide)).trans ((ev_other _ _ (by decide)).trans ((ev_other _ _ (by decide)).trans ((ev_other _ _ (by decide)).trans (ev_same _ _ _ (by simp only [sz_put]; omega)))))))))))) (ev_same _ _ _ (by simp only [sz_put]; omega)) (enter_send _ _ _ _ _ _) (hS ⟨0, (k : Nat), ldQ D k⟩ a c L (F : Nat) ((F + 1 + T) % 4 : Nat) (E : Nat) da dc (ds.take 220) _ (unhide BO) (unhide TL) (hBr.below j1) (by unfold R64; omega) (by unfold R64; omega) (by unfold R64; omega) (hSr.below j1) hdc (unhide D256) hd2) ?_
              rw [(unhide SN).1, (unhide SN).2]
              dsimp only
              rintro e w2 ⟨a6, c6, L6, rfl, t6, n2, k2⟩
              have h2 : (BuAt w2 (w.heap.size + 1) 0 (k : Nat) (.slice a L.length c) ∧ LdAt w2 x (o + k * 4) ⟨fr, to, dl, ds, ba, bc⟩) := ⟨h1.1.below k2, h1.2.below k2⟩
              have j2 : Below W.drew.heap.size W.drew w2 := j1.trans (k2.mono j1.size)
              have m2 := m1.below k2
              refine ⟨_, rfl, ?_⟩
              refine hK _ _ (fun _ => h2) ?_
              clear hK K
              show SeqI _ _ _ _ _ _ (Act.put _ (some 57) _) _
              refine sI_read (v := (.tuple #[busV 0 (k + 1 : Nat) (.slice a6 L6.length c6), .int .i64 0])) rfl (fun _ _ _ h => absurd h.1 (fun e => nomatch e)) (wanted_rd rfl) h2 (fun wx _ => run_move (.tmp 57) rfl (ev_same _ _ _ (by simp only [sz_put]; omega)) wx) ?_
              show SeqI _ _ _ _ _ _ (Act.put _ (some 37) _) _
              refine sI_read (v := (busV 0 (k + 1 : Nat) (.slice a6 L6.length c6))) rfl (fun _ _ _ h => absurd h.1 (fun e => nomatch e)) (wanted_rd rfl) h2 (fun wx _ => run_get2 (.tmp 37) 0 rfl (ev_same _ _ _ (by simp only [sz_put]; omega)) rfl wx) ?_
              show SeqI _ _ _ _ _ _ (Act.put _ (some 58) _) _
              refine sI_read (v := (.int .i64 0)) rfl (fun _ _ _ h => absurd h.1 (fun e => nomatch e)) (wanted_rd rfl) h2 (fun wx _ => run_get2 (.tmp 37) 1 rfl ((ev_other _ _ (by decide)).trans (ev_same _ _ _ (by simp only [sz_put]; omega))) rfl wx) ?_
              show SeqI _ _ _ _ _ _ (Act.put _ (some 59) _) _
              refine sI_do rfl (wanted_rd rfl) (fun K hK => ?_)
              refine wp_storeU _ (.tmp 8) (.tmp 58) rfl ((ev_other _ _ (by decide)).trans ((ev_other _ _ (by decide)).trans ((ev_other _ _ (by decide)).trans ((ev_other _ _ (by decide)).trans ((ev_other _ _ (by decide)).trans ((ev_other _ _ (by decide)).trans ((ev_other _ _ (by decide)).trans ((ev_other _ _ (by decide)).trans (ev_same _ _ _ (by simp only [sz_put]; omega)))))))))) ((ev_other _ _ (by decide)).trans (ev_same _ _ _ (by simp only [sz_put]; omega))) m2 rfl ?_
              intro w3 m3 k3 z3
              have h3 : (BuAt w3 (w.heap.size + 1) 0 (k : Nat) (.slice a L.length c) ∧ LdAt w3 x (o + k * 4) ⟨fr, to, dl, ds, ba, bc⟩) := ⟨h2.1.kept k3 (by omega), h2.2.kept k3 (by omega)⟩
              refine hK _ _ (fun _ => h3) ?_
              clear hK K
              refine sI_read (v := (.int .i64 0)) rfl (fun _ _ _ h => absurd h.1 (fun e => nomatch e)) (wanted_rd rfl) h3 (fun wx _ => run_assign (.tmp 59) rfl (ev_same _ _ _ (by simp only [sz_put]; omega)) wx) ?_
              show SeqI _ _ _ _ _ _ (Act.put _ (some 9) _) _
              have jj : Below W.heap.size W w3 := below_of_kept ((below_drew (Below.refl _ _)).trans (show Below W.heap.size W.drew w2 from j2)) k3 hg (show W.heap.size ≤ w2.heap.size from j2.size)
              exact sI_end ⟨rfl, a6, c6, L6, W.drew.heap.size, t6, (n2.kept k3 (by omega)).weak (show W.heap.size ≤ w1.heap.size from j1.size), m3, jj, hg, rfl⟩
          case rest =>
            rintro a' w7 ⟨a6, c6, L6, g8, t6, n6, m6, j6, hg, rfl⟩
            have h7 := (unhide HW).below j6
            have u0 := m6.cell0; have u1 := m6.cell1; have u2 := m6.cell2
            have l1 : w.heap.size + 1 < W.heap.size := (unhide HW).2.1.lt
            have y := h7.2.1
            have y0 := y.cell0; have y1 := y.cell1; have y2 := y.cell2; have f0 := y.free 0; have f1 := y.free 1; have f2 := y.free 2
            obtain ⟨w8, e8, m8, k8, z8⟩ := y.put 0 (k + 1 : Nat) (.slice a6 L6.length c6)
            have H8 := hide (show LoI w D (k + 1) a6 c6 L6 w8 from ⟨h7.1.kept k8 (by omega), m8, (n6.kept k8 l1).weak (by omega), t6, below_of_kept h7.2.2.2.2 k8 (by omega) h7.2.2.2.2.size⟩)
            have E8 := hide e8
            have hL6 : L6.length = k + 1 := by rw [t6.len, ldQ_len (by omega)]
            rw [hL6] at u2 E8 ⊢
            have HL6 := hide hL6
            have hc1 : ((k + 1 : Nat) : Int) = (k : Int) + 1 := by omega
            rw [hc1] at u1 E8 ⊢
            clear h7 y e8 m8 k8 z8 n6 m6 j6 t6 hL6 hc1
            go_frame
            go_wp2_with fail
            rw [← unhide E8]
            go_roundw
            case rel => exact ⟨k + 1, a6, c6, L6, by omega, by omega, by go_num, unhide H8⟩
            case measure => simp [intOf] <;> omega
      · have h100' : ¬ (k : Int) < 100 := by omega
        obtain rfl : k = kk := by have := unhide HKK; omega
        have c0 := hI.2.1.cell0; have c1 := hI.2.1.cell1; have c2 := hI.2.1.cell2
        have y0 := hI.1.cell0; have y1 := hI.1.cell1; have y2 := hI.1.cell2; have f0 := hI.1.free 0; have f1 := hI.1.free 1; have f2 := hI.1.free 2
        obtain ⟨w8, e8, m8, k8, z8⟩ := hI.1.put 0 (k : Nat) (.slice a L.length c)
        have pp0 := m8.cell0; have pp1 := m8.cell1; have pp2 := m8.cell2
        have K8 := hide (below_of_kept hI.2.2.2.2 k8 (by omega) hI.2.2.2.2.size)
        have E8 := hide e8; have TL := hide hI.2.2.2.1
        have BR8 := hide (hI.2.2.1.kept k8 (by omega)).1
        clear hI e8 m8 k8 z8
        go_wp2_with fail
        rw [← unhide E8]
        refine bodyPost_ret (v := .tuple #[.agg #[.int .i64 0, .int .i64 (k : Nat), .slice a L.length c], .bool true]) (by simp [results, Try.results5, go_sem, pp0, pp1, pp2]) rfl ⟨a, c, L, rfl, unhide TL, unhide BR8, unhide K8⟩
    · have hin' : ¬ (k : Int) < (D.length : Nat) := by omega
      obtain rfl : k = kk := by have := unhide HKK; omega
      have c0 := hI.2.1.cell0; have c1 := hI.2.1.cell1; have c2 := hI.2.1.cell2
      have y0 := hI.1.cell0; have y1 := hI.1.cell1; have y2 := hI.1.cell2; have f0 := hI.1.free 0; have f1 := hI.1.free 1; have f2 := hI.1.free 2
      obtain ⟨w8, e8, m8, k8, z8⟩ := hI.1.put 0 (k : Nat) (.slice a L.length c)
      have pp0 := m8.cell0; have pp1 := m8.cell1; have pp2 := m8.cell2
      have K8 := hide (below_of_kept hI.2.2.2.2 k8 (by omega) hI.2.2.2.2.size)
      have E8 := hide e8; have TL := hide hI.2.2.2.1
      have BR8 := hide (hI.2.2.1.kept k8 (by omega)).1
      clear hI e8 m8 k8 z8
      go_wp2_with fail
      rw [← unhide E8]
      refine bodyPost_ret (v := .tuple #[.agg #[.int .i64 0, .int .i64 (k : Nat), .slice a L.length c], .bool true]) (by simp [results, Try.results5, go_sem, pp0, pp1, pp2]) rfl ⟨a, c, L, rfl, unhide TL, unhide BR8, unhide K8⟩

end Go.Proofs.Ythjeedlhlkggkab
