/- The walk of WireMemory, whatever Encode and Decode are made of. -/
import Derived.Test.YtnbpkidjojgghaaWireTell
import Derived.Test.YtnbpkidjojgghaaRoomB
import Derived.Test.YtnbpkidjojgghaaJoinU
import Derived.Test.YtnbpkidjojgghaaSumBytes
import Derived.Test.YtnbpkidjojgghaaSumOpen
import Derived.Test.YtnbpkidjojgghaaNear5
import Derived.Test.YtnbpkidjojgghaaOpenByte
namespace Go.Proofs.Ytnbpkidjojgghaa
open Go.RowKit

theorem MgAt.ki {B U : Nat} {w w' : World} {b : Nat} {K F R : Int} {v : Value} (h : MgAt w b K F R v) (k : KI B U w w') (hb : b < B ∨ U ≤ b) : MgAt w' b K F R v := h.same (k.block b h.lt hb)
theorem room_rd {w : World} {r len c : Nat} {g : Nat → Nat} (h : Vh 5 w r (len + 2) c (bF (rbF g len))) : Rd w (some ⟨r, 0, none⟩) len (bF g) := ((h.less (show len ≤ len + 2 by omega)).congr (fun i hi => by unfold bF; rw [rbF_low hi])).rd
theorem room_sr {w : World} {r len c : Nat} {g : Nat → Nat} (h : Vh 5 w r (len + 2) c (bF (rbF g len))) : Sr w (some ⟨r, 0, none⟩) len c (bF g) := Or.inr ⟨_, rfl, fun i hi => by rw [Addr.add_lit, Nat.zero_add, h.cell (show i < len + 2 by omega)]; unfold bF; rw [rbF_low hi]⟩
theorem dN_le {g : Nat → Nat} {len : Nat} {E : Int} (h : dcE g len E) : dN E (g 7) ≤ 24 := by
  unfold dN
  split
  · rename_i e
    subst e
    exact (dcE_right h).2.2.2.2.1
  · omega
theorem rm_R64 {f : Nat → Int} {l : Nat} (h : ∀ i, R64 (f i)) (i : Nat) : R64 (rmF f l i) := by
  unfold rmF
  split
  · exact h i
  · split
    · unfold R64; omega
    · unfold R64; omega
theorem room_sri {w : World} {r n : Nat} {f : Nat → Int} (h : Nh w r (n + 2) (n + 2) (rmF f n)) : Sr w (some ⟨r, 0, none⟩) n (n + 2) (iF (rmF f n)) := Or.inr ⟨_, rfl, fun i hi => by rw [Addr.add_lit, Nat.zero_add]; exact h.cell (show i < n + 2 by omega)⟩

set_option maxRecDepth 100000 in
set_option maxHeartbeats 4000000 in
theorem wireMemory_by (hE : EnOK 9) (hD : DcOK 12) {w : World} (ao : Option Addr) (len cap : Nat) (g : Nat → Nat) (K F R : Int) (mo : Option Addr) (n mc : Nat) (f : Nat → Int) (ha : ArgB w ao len cap g) (rK : R64 K) (rF : R64 F) (rR : R64 R) (ar : ArgS w mo n mc f) (_rc : n ≤ mc) :
    Calls Try.prog 8 #[.slice ao len cap, msV K F R (.slice mo n mc)] w fun e w' => e = .returned (.bool true) ∧ Below w.heap.size w w' := by
  obtain ⟨hb, hl, hg, _⟩ := ha
  have hnl := ar.2.1
  obtain ⟨w1, e1, m1, k1, s1⟩ := mg_alloc w K F R (.slice mo n mc)
  have E1 := hide e1; have M1 := hide m1; have K1 := hide k1; have S1 := hide s1; have HB := hide hb; have HG := hide hg; have AR := hide ar; have HE := hide hE; have HD := hide hD; have RK := hide rK; have RF := hide rF; have RR := hide rR
  clear e1 m1 k1 s1 hb hg ar hE hD rK rF rR
  unfold msV
  go_enter Try.func8, Try.ntmps8
  go_wp2_with fail
  rw [← unhide E1]
  go_wp2_with fail
  refine (roomyB_any ao len cap g _ hl ((unhide HB).below (unhide K1))).mono ?_
  rintro e w2 ⟨r, c, rfl, hr, v2, k2⟩
  have hcap := v2.fit
  have V2 := hide v2; have M2 := hide ((unhide M1).below k2); have K2 := hide (show Below w.heap.size w w2 from (unhide K1).trans (k2.mono (unhide K1).size))
  have Z2 := hide (show w.heap.size + 1 ≤ w2.heap.size ∧ r < w2.heap.size from ⟨by have := unhide S1; have := k2.size; omega, v2.lt⟩)
  clear hr v2 k2 K1 M1 S1
  go_wp2_with fail
  refine (seal_any (some ⟨r, 0, none⟩) len c g _ (unhide HG) (by omega) (room_rd (unhide V2))).mono ?_
  rintro e w3 ⟨v3, rfl, o3, k3⟩
  obtain ⟨r3, c3, rfl, hr3, v3⟩ := Vh.of_owns (by omega) o3
  have L3 := hide (And.intro hr3 v3.lt)
  have V3 := hide ((unhide V2).below k3); have M3 := hide ((unhide M2).below k3); have Q3 := hide v3; have Z3 := hide k3.size; have K3 := hide (show Below w.heap.size w w3 from (unhide K2).trans (k3.mono (unhide K2).size))
  clear o3 hr3 v3 k3 V2 M2 K2
  go_wp2_with fail
  refine (open_any (some ⟨r, 0, none⟩) len c g _ (unhide HG) (by omega) (by omega) (room_rd (unhide V3))).mono ?_
  rintro e w4 ⟨v4, ok, rfl, _, y4, m4, k4⟩
  obtain ⟨a4, l4, c4, F4, rfl, hl4, o4⟩ : ∃ a4 l4 c4 F4, v4 = .slice a4 l4 c4 ∧ l4 ≤ len ∧ w4.ownsRow w3.heap.size 5 1 (.slice a4 l4 c4) l4 (rowV F4 l4) := by
    cases ok
    · exact ⟨none, 0, 0, fun _ => .int .u8 0, m4 rfl, Nat.zero_le _, World.ownsRow_nil _ _ _ _⟩
    · obtain ⟨a, c, e, _⟩ := owns_sr (y4 rfl)
      subst e
      exact ⟨a, len - 4, c, bF g, rfl, Nat.sub_le _ _, y4 rfl⟩
  have U4 := hide (inU_of o4)
  have V4 := hide ((unhide V3).below k4); have M4 := hide ((unhide M3).below k4); have Q4 := hide ((unhide Q3).below k4); have O4 := hide o4; have Z4 := hide k4.size; have K4 := hide (show Below w.heap.size w w4 from (unhide K3).trans (k4.mono (unhide K3).size))
  clear y4 m4 o4 k4 V3 M3 Q3 K3
  go_wp2_with fail
  refine (unhide HD (some ⟨r, 0, none⟩) len c g _ (unhide HG) hl (by omega) (room_sr (unhide V4))).mono ?_
  rintro e w5 ⟨E, v5, dE, rfl, o5, k5⟩
  have h24 := dN_le dE
  obtain ⟨X, eX⟩ : ∃ X : Nat, dN E (g 1) = X := ⟨_, rfl⟩
  obtain ⟨Y, eY⟩ : ∃ Y : Nat, dN E (g 2) = Y := ⟨_, rfl⟩
  obtain ⟨Z, eZ⟩ : ∃ Z : Nat, dN E (dR g) = Z := ⟨_, rfl⟩
  obtain ⟨n5, en⟩ : ∃ n : Nat, dN E (g 7) = n := ⟨_, rfl⟩
  rw [eX, eY, eZ]
  rw [en] at o5 h24
  obtain ⟨a5, c5, rfl⟩ := owns_slice o5
  have U5 := hide (inU_of o5)
  obtain ⟨w6, e6, m6, k6, s6⟩ := mg_alloc w5 (X : Int) (Y : Int) (Z : Int) (.slice a5 n5 c5)
  have V6 := hide (((unhide V4).below k5).below k6); have M6 := hide (((unhide M4).below k5).below k6); have Q6 := hide (((unhide Q4).below k5).below k6); have O6 := hide (own_kept (own_kept (unhide O4) k5) k6); have P6 := hide (own_kept o5 k6); have D6 := hide m6
  have Z6 := hide (And.intro k5.size s6); have K6 := hide (show Below w.heap.size w w6 from ((unhide K4).trans (k5.mono (unhide K4).size)).trans (k6.mono (Nat.le_trans (unhide K4).size k5.size))); have E6 := hide e6
  clear dE o5 k5 e6 m6 k6 s6 eX eY eZ en V4 M4 Q4 O4 K4
  unfold msV
  go_wp2_with fail
  rw [← unhide E6]
  -- the sealed bytes are written over
  go_loopw [11] (fun is wr => ∃ (i : Nat) (G : Nat → Value), is = .int .i64 i ∧ i ≤ len + 4 ∧ Vh 5 wr r3 (len + 4) c3 G ∧ KI w2.heap.size w3.heap.size w6 wr) (fun is _ => len + 4 - (intOf is).toNat)
  case atStart => exact ⟨0, _, rfl, Nat.zero_le _, unhide Q6, KI.of_below (Below.refl _ _)⟩
  case round =>
    obtain ⟨i, G, rfl, hi, hv, hk⟩ := hrel
    have HV := hide hv; have HK := hide hk
    clear hv hk Q6
    rename World => w7
    by_cases hil : i < len + 4
    · have cc := (unhide HV).cell hil; have ff := (unhide HV).free i
      have hil' : (i : Int) < (len : Int) + 4 := by omega
      go_wp2_with fail
      go_roundw
      case rel => exact ⟨i + 1, stW G i (.int .u8 55), by go_num, by omega, (unhide HV).set i _, (unhide HK).trans (KI.of_kept (kept_set _ _ _ _) (unhide L3).1 (Or.inl (unhide L3).2))⟩
      case measure => simp [intOf] <;> omega
    · have e9 : i = len + 4 := by omega
      subst e9
      have z2 := unhide Z2; have z3 := unhide Z3; have z4 := unhide Z4; have z6 := unhide Z6
      have hk := unhide HK
      have V7 := hide ((unhide V6).ki hk (Or.inl z2.2)); have M7 := hide ((unhide M6).ki hk (Or.inl (by omega))); have O7 := hide (own_ki (unhide O6) hk (Nat.le_refl _)); have P7 := hide (own_ki (unhide P6) hk (by omega)); have D7 := hide ((unhide D6).ki hk (Or.inr (by omega)))
      have K7 := hide (below_ki (unhide K6) hk (by omega) (unhide K6).size); have Z7 := hide hk.size
      clear hk HV HK V6 M6 O6 P6 D6 K6 z2 z3 z4 z6
      rw [show ((len + 4 : Nat) : Int) = (len : Int) + 4 by omega]
      go_wp2_with fail
      -- the opened bytes are written over
      go_loopw [12] (fun is wr => ∃ (i : Nat) (G : Nat → Value), is = .int .i64 i ∧ i ≤ l4 ∧ wr.ownsRow w3.heap.size 5 1 (.slice a4 l4 c4) l4 (rowV G l4) ∧ KI w3.heap.size w4.heap.size w7 wr) (fun is _ => l4 - (intOf is).toNat)
      case atStart => exact ⟨0, F4, rfl, Nat.zero_le _, unhide O7, KI.of_below (Below.refl _ _)⟩
      case round =>
        obtain ⟨i, G, rfl, hi2, ho, hk⟩ := hrel
        have HK := hide hk
        clear hk
        rename World => w8
        by_cases hil2 : i < l4
        · obtain ⟨r4, c4', ev, hr4, hv⟩ := Vh.of_owns (by omega) ho
          cases ev
          have HV := hide hv; have L4 := hide (And.intro hr4 (inU_at (unhide U4)))
          have cc := hv.cell hil2; have ff := hv.free i
          clear ho hv hr4
          go_wp2_with fail
          go_roundw
          case rel => exact ⟨i + 1, stW G i (.int .u8 55), by go_num, by omega, ((unhide HV).set i _).owns (unhide L4).1, (unhide HK).trans (KI.of_kept (kept_set _ _ _ _) (unhide L4).1 (Or.inl (unhide L4).2))⟩
          case measure => simp [intOf] <;> omega
        · have e9 : i = l4 := by omega
          subst e9
          have z2 := unhide Z2; have z3 := unhide Z3; have z4 := unhide Z4; have z6 := unhide Z6
          have hk := unhide HK
          have m8 := (unhide M7).ki hk (Or.inl (by omega)); have d8 := (unhide D7).ki hk (Or.inr (by omega))
          have V8 := hide ((unhide V7).ki hk (Or.inl (by omega))); have M8 := hide m8; have P8 := hide (res_of_owns (own_ki (unhide P7) hk (Nat.le_refl _)) (unhide U5) (by omega))
          have K8 := hide (below_ki (unhide K7) hk (by omega) (unhide K7).size); have Z8 := hide (Nat.le_trans (unhide Z7) hk.size)
          have c3' := d8.cell3
          clear hk ho HK V7 M7 O7 P7 D7 K7 z2 z3 z4 m8 d8 Z7
          go_wp2_with fail
          refine (scribbleO_any w4.heap.size w5.heap.size a5 n5 c5 _ (unhide P8) (by have := unhide Z8; omega)).mono ?_
          rintro e w9 ⟨rfl, hk⟩
          have z2 := unhide Z2; have z3 := unhide Z3; have z4 := unhide Z4
          have m9 := (unhide M8).ki hk (Or.inl (by omega))
          have b0 := m9.cell0; have b1 := m9.cell1; have b2 := m9.cell2; have b3 := m9.cell3
          obtain ⟨wA, eA, mA, kA, sA⟩ := mg_alloc w9 K F R (.slice mo n mc)
          have K9 := below_ki (unhide K8) hk (by omega) (unhide K8).size
          have KA := hide (K9.trans (kA.mono K9.size))
          have VA := hide (((unhide V8).ki hk (Or.inl (by omega))).below kA); have MA := hide (m9.below kA); have NA := hide mA
          have p3 := (m9.below kA).cell3
          have Z9 := hide (show w2.heap.size ≤ w9.heap.size by have := unhide Z8; have := hk.size; omega); have ZA := hide sA; have EA := hide eA
          rw [eA] at p3
          clear c3' hk z2 z3 z4 z6 m9 eA mA kA sA V8 M8 P8 K8 Z8 K9
          go_wp2_with fail
          rw [← unhide EA]
          clear b0 b1 b2 b3 p3
          refine (roomy_any mo n mc f _ ((unhide AR).below (unhide KA))).mono ?_
          rintro e wB ⟨rfl, nB, kB⟩
          have mB := (unhide MA).below kB; have qB := (unhide NA).below kB
          have q3 := qB.cell3; have f3 := qB.free 3
          obtain ⟨wC, eC, mC, kC⟩ := qB.put3 (.slice (some ⟨wA.heap.size, 0, none⟩) n (n + 2))
          have zA := unhide ZA; have z9 := unhide Z9; have z2 := unhide Z2
          have KB := (unhide KA).trans (kB.mono (unhide KA).size)
          have KC := hide (below_of_kept KB kC (by omega) KB.size)
          have VC := hide (((unhide VA).below kB).kept kC (by omega)); have MC := hide (mB.kept kC (by omega)); have NC := hide mC; have RC := hide (nB.kept kC (by omega))
          have ZC := hide (show wA.heap.size + 1 ≤ wC.heap.size by have := nB.lt; have := kC.size; omega)
          have EC := hide eC
          have p0 := mC.cell0; have p1 := mC.cell1; have p2 := mC.cell2; have p3 := mC.cell3
          rw [eC] at p0 p1 p2 p3
          clear nB kB mB qB eC mC kC zA z9 z2 KB VA MA NA KA
          go_wp2_with fail
          rw [← unhide EC]
          clear p0 p1 p2 p3 q3 f3
          refine (unhide HE K F R (some ⟨wA.heap.size, 0, none⟩) n (n + 2) (rmF f n) _ (unhide RK) (unhide RF) (unhide RR) (rm_R64 (unhide AR).2.2) hnl (by omega) (room_sri (unhide RC))).mono ?_
          rintro e wD ⟨vD, rfl, oD, kD⟩
          obtain ⟨L, eL⟩ : ∃ L, enL K F R n = L := ⟨_, rfl⟩
          have hL : L ≤ 204 := by rw [← eL]; exact enL_le K F R n
          obtain ⟨x, ex⟩ : ∃ x, wrongM K F R n = x := ⟨_, rfl⟩
          rw [eL] at oD
          rw [ex]
          obtain ⟨aD, cD, rfl⟩ := owns_slice oD
          have UD := hide (inU_of oD)
          have mD := (unhide NC).below kD
          have p0 := mD.cell0; have p1 := mD.cell1; have p2 := mD.cell2; have p3 := mD.cell3
          have VD := hide ((unhide VC).below kD); have MD := hide ((unhide MC).below kD); have ND := hide mD; have RD := hide ((unhide RC).below kD); have OD := hide oD; have KD := hide ((unhide KC).trans (kD.mono (unhide KC).size)); have ZD := hide kD.size
          have EL := hide eL; have EX := hide ex
          clear oD kD mD eL ex VC MC NC RC KC
          go_wp2_with fail
          clear p0 p1 p2 p3
          refine (unhide HE K F R (some ⟨wA.heap.size, 0, none⟩) n (n + 2) (rmF f n) _ (unhide RK) (unhide RF) (unhide RR) (rm_R64 (unhide AR).2.2) hnl (by omega) (room_sri (unhide RD))).mono ?_
          rintro e wE ⟨vE, rfl, oE, kE⟩
          rw [unhide EL] at oE
          rw [unhide EX]
          obtain ⟨aE, cE, rfl, sE, _⟩ := owns_sr oE
          have cv := run_convB wE aE L cE _ sE.rd
          obtain ⟨T, eT⟩ : ∃ T, sB (enS K F R n (rmF f n)) L = T := ⟨_, rfl⟩
          rw [eT] at cv
          have VE := hide ((unhide VD).below kE); have ME := hide ((unhide MD).below kE); have NE := hide ((unhide ND).below kE); have RE := hide ((unhide RD).below kE); have OE := hide (own_kept (unhide OD) kE); have YE := hide oE; have KE := hide ((unhide KD).trans (kE.mono (unhide KD).size)); have ZE := hide kE.size; have ET := hide eT
          clear oE kE sE eT VD MD ND RD OD KD
          go_wp2_with fail
          clear cv
          -- the first answer is written over
          go_loopw [19] (fun is wr => ∃ (i : Nat) (G : Nat → Value), is = .int .i64 i ∧ i ≤ L ∧ wr.ownsRow wC.heap.size 5 1 (.slice aD L cD) L (rowV G L) ∧ KI wC.heap.size wD.heap.size wE wr) (fun is _ => L - (intOf is).toNat)
          case atStart => exact ⟨0, _, rfl, Nat.zero_le _, unhide OE, KI.of_below (Below.refl _ _)⟩
          case round =>
            obtain ⟨j, G, rfl, hj, ho, hk⟩ := hrel
            have HK := hide hk
            clear hk
            rename World => wF
            by_cases hjl : j < L
            · obtain ⟨rD, cD', ev, hrD, hv⟩ := Vh.of_owns (by omega) ho
              cases ev
              have HV := hide hv; have LD := hide (And.intro hrD (inU_at (unhide UD)))
              have cc := hv.cell hjl; have ff := hv.free j
              clear ho hv hrD
              go_wp2_with fail
              go_roundw
              case rel => exact ⟨j + 1, stW G j (.int .u8 55), by go_num, by omega, ((unhide HV).set j _).owns (unhide LD).1, (unhide HK).trans (KI.of_kept (kept_set _ _ _ _) (unhide LD).1 (Or.inl (unhide LD).2))⟩
              case measure => simp [intOf] <;> omega
            · have e9 : j = L := by omega
              subst e9
              have hk := unhide HK
              have zD := unhide ZD; have zE := unhide ZE
              have AG := al_below wF (.cells #[.int .u8 55, .int .u8 55] 5)
              have VG := hide ((Vh.new wF 5 #[.int .u8 55, .int .u8 55] (fun _ => .int .u8 55) (by show 2 ≤ maxLen; decide) (fun i hi => by
                have : i = 0 ∨ i = 1 := by simp at hi; omega
                rcases this with rfl | rfl <;> rfl)).rd)
              have OG := hide (own_kept ho AG); have KG := hide (hk.trans (KI.of_below AG)); have ZG := hide (show wC.heap.size ≤ (wF.alloc (.cells #[.int .u8 55, .int .u8 55] 5)).heap.size by have := hk.size; have := AG.size; omega)
              clear hk ho AG zD zE HK
              go_wp2_with (at_builtin; refine wpList_joinU _ rfl _ _ rfl wC.heap.size wD.heap.size (unhide ZG) aD j cD G rfl (unhide OG) (unhide UD) wF.heap.size 2 2 (fun _ => .int .u8 55) rfl (unhide VG) (fun i _ => rfl) (by omega) (by omega) ?_)
              intro rH cH uH wH c0 f0 hr1 hr2 kH
              have HR := hide (And.intro hr1 hr2); have KH := hide ((unhide KG).trans kH)
              have ZH := hide (show wE.heap.size ≤ (wF.alloc (.cells #[.int .u8 55, .int .u8 55] 5)).heap.size from (unhide KG).size)
              clear hr1 hr2 kH KG OG VG ZG
              go_wp2_with fail
              clear c0 f0
              obtain ⟨wI, eI⟩ : ∃ wI, wI = wH.setCell ⟨rH, 0, none⟩ (.int .u8 54) := ⟨_, rfl⟩
              have kI : KI wC.heap.size wD.heap.size wE wI := by
                have h1 := unhide KH; have h2 := kept_set wH rH 0 (.int .u8 54); have h3 := unhide HR; have h4 := unhide ZH; have h5 := al_size wF (.cells #[.int .u8 55, .int .u8 55] 5)
                rw [eI]
                exact ⟨h2.os.trans h1.os, h2.tape.trans h1.tape, h2.output.trans h1.output, Nat.le_trans h1.size h2.size, fun k hk hh => (h2.block k (Nat.lt_of_lt_of_le hk h1.size) (by omega)).trans (h1.block k hk hh)⟩
              rw [← eI]
              have zC := unhide ZC; have zA := unhide ZA; have z9 := unhide Z9; have z2 := unhide Z2
              have VI := hide ((unhide VE).ki kI (Or.inl (by omega))); have MI := hide ((unhide ME).ki kI (Or.inl (by omega))); have NI := hide ((unhide NE).ki kI (Or.inl (by omega))); have RI := hide ((unhide RE).ki kI (Or.inl (by omega))); have YI := hide (own_ki (unhide YE) kI (Nat.le_refl _))
              have KI' := hide (below_ki (unhide KE) kI (by omega) (unhide KE).size)
              clear eI kI zC zA z9 z2 VE ME NE RE YE OE KE KH HR ZH
              refine (tells_ok (unhide HE) (unhide HD) _).mono ?_
              rintro e wJ ⟨rfl, kJ⟩
              have VJ := hide ((unhide VI).below kJ); have MJ := hide ((unhide MI).below kJ); have NJ := hide ((unhide NI).below kJ); have RJ := hide ((unhide RI).below kJ); have YJ := hide (own_kept (unhide YI) kJ); have KJ := hide ((unhide KI').trans (kJ.mono (unhide KI').size))
              clear kJ VI MI NI RI YI KI'
              go_wp2_with fail
              refine (sums_any wJ).mono ?_
              rintro e wK ⟨rfl, kK⟩
              have VK := hide ((unhide VJ).below kK); have MK := hide ((unhide MJ).below kK); have NK := hide ((unhide NJ).below kK); have RK' := hide ((unhide RJ).below kK); have YK := hide (own_kept (unhide YJ) kK); have KK := hide ((unhide KJ).trans (kK.mono (unhide KJ).size))
              clear kK VJ MJ NJ RJ YJ KJ
              go_wp2_with fail
              refine (stayedB_any r c ao len cap g _ hl (unhide VK) ((unhide HB).below (unhide KK)).rd).mono ?_
              rintro e wL ⟨rfl, kL⟩
              have mL := (unhide MK).below kL; have nL := (unhide NK).below kL
              have p3 := mL.cell3; have q3 := nL.cell3
              have RL := hide ((unhide RK').below kL); have YL := hide (own_kept (unhide YK) kL); have KL := hide ((unhide KK).trans (kL.mono (unhide KK).size))
              clear kL mL nL VK MK NK RK' YK KK
              go_wp2_with fail
              clear p3 q3
              refine (stayed_any wA.heap.size n mc mo f _ (by omega) (unhide RL) (ArgS.below (unhide AR) (unhide KL)).rds).mono ?_
              rintro e wM ⟨rfl, kM⟩
              have yM := own_kept (unhide YL) kM
              obtain ⟨_, _, eM, sM, _⟩ := owns_sr yM
              cases eM
              have cv := run_convB wM aE j cE _ sM.rd
              rw [unhide ET] at cv
              have KM := hide ((unhide KL).trans (kM.mono (unhide KL).size))
              clear kM yM sM YL KL RL ET EX EL
              by_cases hx : x = 0
              · subst hx
                go_wp2_with fail
                go_ret
                exact ⟨rfl, unhide KM⟩
              · have tx : (x != 0) = true := by simp [hx]
                clear cv
                go_wp2_with fail
                go_ret
                exact ⟨rfl, unhide KM⟩

end Go.Proofs.Ytnbpkidjojgghaa
