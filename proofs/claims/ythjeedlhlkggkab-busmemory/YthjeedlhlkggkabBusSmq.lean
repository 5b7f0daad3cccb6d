/- The contract of smear: a bus written over. -/
import Derived.Test.YthjeedlhlkggkabBusSmr
namespace Go.Proofs.Ythjeedlhlkggkab
open Go.RowKit

theorem kept_cells (b : Nat) : ∀ (vs : List Value) (o : Nat) (w : World), Kept b w (w.setCells b o vs)
  | [], _, _ => kept_refl _ _
  | v :: vs, o, w => (kept_set w b o v).trans (kept_cells b vs (o + 1) (w.setCell ⟨b, o, none⟩ v)) (Or.inl rfl)
theorem block_cells (b : Nat) {t : TypeId} : ∀ (vs : List Value) (o : Nat) (w : World) (cur : Array Value), w.heap[b]? = some (.cells cur t (0, 0)) → ∃ cur', (w.setCells b o vs).heap[b]? = some (.cells cur' t (0, 0)) ∧ cur'.size = cur.size
  | [], _, _, cur, h => ⟨cur, h, rfl⟩
  | v :: vs, o, w, cur, h => by
    obtain ⟨cur', h1, h2⟩ := block_cells b vs (o + 1) (w.setCell ⟨b, o, none⟩ v) _ (heap_setCell_same w b o _ _ v h)
    exact ⟨cur', h1, by rw [h2]; simp⟩
/-- Two parcels of no matter. -/
def two99 : List Value := [.int .i64 (-99), .int .i64 0, .int .i64 0, .int .i64 0, .slice none 0 0, .int .i64 (-99), .int .i64 0, .int .i64 0, .int .i64 0, .slice none 0 0]
theorem wpList_smQ (w : World) {ops : Array Oper} {rest : List Oper} {o : Oper} {a : Act} {Q : Exit → Act → World → Prop} (hgd : o.guard = none) (s x : Operand)
    (ho : o.op = .call { callee := .builtin .append, args := #[s, x], argTypes := #[23, 23] }) {U T : Nat} {ao : Option Addr} {n cap : Nat} (hn : n ≤ cap) (h : Rm w U T 32 5 ao cap) (hU : U ≤ w.heap.size) (hl : n ≤ 2513169434843)
    (hs : a.eval s = .slice ao n cap) (g : Nat) (hx : a.eval x = .slice (some ⟨g, 0, none⟩) 2 2) (hc : ∀ i u, two99[i]? = some u → w.cell? ⟨g, i, none⟩ = some u)
    (hk : ∀ r off c' u w', w'.cell? ⟨r, off + 1, none⟩ = some u → w'.frozen? ⟨r, off + 1, none⟩ = false → U ≤ r → (r < T ∨ w.heap.size ≤ r) → KI U T w w' → wpList Try.prog ops Q rest (a.put o.dst (.slice (some ⟨r, off, none⟩) (n + 2) c')) w') : wpList Try.prog ops Q (o :: rest) a w := by
  obtain ⟨i0, hi, hz0, hz1, hz2⟩ := info_parts infoPc
  have hnews : ∀ (i : Nat) (u : Value), two99[i]? = some u → w.cell? ((⟨g, 0, none⟩ : Addr).add i) = some u := fun i u hu => by rw [Addr.add_lit, Nat.zero_add]; exact hc i u hu
  have hone : ∀ u ∈ two99, u.oneCell' = true := by
    intro u hu
    unfold two99 at hu
    simp only [List.mem_cons, List.not_mem_nil, or_false] at hu
    rcases hu with rfl | rfl | rfl | rfl | rfl | rfl | rfl | rfl | rfl | rfl <;> rfl
  by_cases hroom : n + 2 ≤ cap
  · rcases h with h0 | ⟨b, off, cur, ea, b1, b2, hb, hsz⟩
    · omega
    · rw [ea] at hs
      refine wpList_append_arg w hgd s x 23 ho 32 i0 (.agg #[.int .i64 0, .int .i64 0, .int .i64 0, .int .i64 0, .slice none 0 0]) 5 56 Try.underlying23 hi hz0 hz1 hz2 rfl (by decide) b off n cap ((cur.toList.drop off).take (n * 5)) hs (by simp; omega) (fun y u hu => ?_) ⟨g, 0, none⟩ 2 2 two99 hx rfl hnews hone (fun _ y hy => ?_) (by unfold maxLen; omega) (by omega) (fun _ => ?_) (fun hc => by omega)
      · rw [List.getElem?_take] at hu
        split at hu
        · rw [List.getElem?_drop, Array.getElem?_toList] at hu
          unfold World.cell?; rw [hb]; exact hu
        · cases hu
      · have hy2 : y < 10 := hy
        exact ⟨by unfold World.cell?; rw [hb]; simp; omega, by simp [World.frozen?, hb]⟩
      · obtain ⟨cur', hb', hsz'⟩ := block_cells b two99 (off + n * 5) w cur hb
        have kk := kept_cells b two99 (off + n * 5) w
        have hlt : off + 1 < cur'.size := by omega
        exact hk b off cap _ _ (by unfold World.cell?; rw [hb']; exact Array.getElem?_eq_getElem hlt) (by simp [World.frozen?, hb']) b1 (Or.inl b2) (KI.of_kept kk b1 (Or.inl b2))
  · have hold : ∃ olds : List Value, olds.length = n * 5 ∧ ∀ b, ao = some b → ∀ i u, olds[i]? = some u → w.cell? (b.add i) = some u := by
      rcases Nat.eq_zero_or_pos n with h0 | h0
      · exact ⟨[], by rw [h0]; rfl, fun b _ i u hu => by simp at hu⟩
      · rcases h with h1 | ⟨b, off, cur, ea, b1, b2, hb, hsz⟩
        · omega
        · refine ⟨(cur.toList.drop off).take (n * 5), by simp; omega, fun b' eb i u hu => ?_⟩
          rw [ea] at eb; cases eb
          rw [Addr.add_lit]
          rw [List.getElem?_take] at hu
          split at hu
          · rw [List.getElem?_drop, Array.getElem?_toList] at hu
            unfold World.cell?; rw [hb]; exact hu
          · cases hu
    obtain ⟨olds, ho1, ho2⟩ := hold
    refine wpList_append_grows w hgd s x 23 ho 32 i0 (.agg #[.int .i64 0, .int .i64 0, .int .i64 0, .int .i64 0, .slice none 0 0]) 5 56 Try.underlying23 hi hz0 hz1 hz2 rfl (by decide) ao n cap olds hs (fun e => ?_) ho1 ho2 ⟨g, 0, none⟩ 2 2 two99 hx rfl hnews hone (by omega) (by unfold maxLen; omega) (by omega) ?_
    · rcases h with h0 | ⟨b, off, cur, ea, _⟩
      · omega
      · rw [ea] at e; cases e
    · intro v' w2 ho2 hgr
      have kk : Below w.heap.size w w2 := below_grown hgr (by intro k h; cases h)
      rcases ho2.2 with ⟨_, h0⟩ | ⟨r, cp, cur, rfl, hr, hb, hc, _, hsz, _⟩
      · omega
      · have hlt : 0 + 1 < cur.size := by omega
        exact hk r 0 cp _ w2 (by unfold World.cell?; rw [hb]; exact Array.getElem?_eq_getElem hlt) (by simp [World.frozen?, hb]) (by omega) (Or.inr hr) (KI.of_below kk)

/-- What lies in memory while a bus is written over. -/
def SmI (w : World) (U T : Nat) (N S : Int) (ao : Option Addr) (n cap : Nat) (A : Nat → Option Addr) (m c : Nat → Nat) (W : World) : Prop := BuAt W w.heap.size N S (.slice ao n cap) ∧ SmB U T W ao n cap A m c ∧ KI U T w W
theorem KI.put {w w' : World} {U T r off : Nat} (v : Value) (h : KI U T w w') (h1 : U ≤ r) (h2 : r < T ∨ w.heap.size ≤ r) : KI U T w (w'.setCell ⟨r, off, none⟩ v) := by
  have k := kept_set w' r off v
  exact ⟨k.os.trans h.os, k.tape.trans h.tape, k.output.trans h.output, Nat.le_trans h.size k.size, fun i hi hh => (k.block i (Nat.lt_of_lt_of_le hi h.size) (by omega)).trans (h.block i hi hh)⟩
theorem BuAt.ki {w w' : World} {U T b : Nat} {N S : Int} {r : Value} (h : BuAt w b N S r) (k : KI U T w w') (hb : b < U ∨ T ≤ b) : BuAt w' b N S r := h.same (k.block b h.lt hb)

set_option maxHeartbeats 4000000 in
theorem smear_any (U T : Nat) (N S : Int) (ao : Option Addr) (n cap : Nat) (A : Nat → Option Addr) (m c : Nat → Nat) (w : World) (h : SmB U T w ao n cap A m c) (hU : U ≤ w.heap.size) (hT : T ≤ w.heap.size) (hn : n ≤ 2513169434843) :
    Calls Try.prog 14 #[busV N S (.slice ao n cap)] w fun e w' => e = .returned (.tuple #[]) ∧ KI U T w w' := by
  obtain ⟨w1, e1, m1, k1, s1⟩ := bu_alloc w N S (.slice ao n cap)
  have H1 := hide (show SmI w U T N S ao n cap A m c w1 from ⟨m1, h.below k1, KI.of_below k1⟩)
  have E1 := hide e1
  clear e1 m1 k1 s1 h
  unfold busV
  go_enter Try.func14, Try.ntmps14
  go_wp2_with fail
  rw [← unhide E1]
  go_loopw [2] (fun is wr => ∃ i : Nat, i ≤ n ∧ is = .int .i64 (i : Nat) ∧ SmI w U T N S ao n cap A m c wr) (fun is _ => n - (intOf is).toNat)
  case atStart => exact ⟨0, Nat.zero_le _, rfl, unhide H1⟩
  case round =>
    obtain ⟨i, hi, rfl, hI⟩ := hrel
    rename World => wo
    have x2 := hI.1.cell2
    have hwo : w.heap.size < wo.heap.size := hI.1.lt
    by_cases hin : i < n
    · have hin' : (i : Int) < (n : Nat) := by omega
      obtain ⟨bq, oq, rfl, hq1, hq2, hqc⟩ := hI.2.1.cell (by omega)
      have HI := hide hI
      have hmi := (hI.2.1.2.2.2 i hin).2.1
      clear hI
      go_wp2_with fail
      go_loopw [3] (fun ks wr => ∃ k : Nat, k ≤ m i ∧ ks = .int .i64 (k : Nat) ∧ SmI w U T N S (some ⟨bq, oq, none⟩) n cap A m c wr) (fun ks _ => m i - (intOf ks).toNat)
      case atStart => exact ⟨0, Nat.zero_le _, rfl, unhide HI⟩
      case round =>
        obtain ⟨k, hk, rfl, hI⟩ := hrel
        rename World => wr
        have hwr : w.heap.size < wr.heap.size := hI.1.lt
        have y2 := hI.1.cell2
        obtain ⟨b2, o2, eb, _, _, hc2⟩ := hI.2.1.cell (by omega)
        cases eb
        have y4 := (hc2 i hin).1
        by_cases hkm : k < m i
        · obtain ⟨bb, ob, cb, ea, hb1, hb2, hb3, hb4⟩ := hI.2.1.bytes hin (by have := (hI.2.1.2.2.2 i hin).1; omega)
          have hcm := (hI.2.1.2.2.2 i hin).1
          have hlt : ob + k < cb.size := by omega
          have z1 : wr.cell? ⟨bb, ob + k, none⟩ = some cb[ob + k] := by unfold World.cell?; rw [hb3]; exact Array.getElem?_eq_getElem hlt
          have z2 : wr.frozen? ⟨bb, ob + k, none⟩ = false := by simp [World.frozen?, hb3]
          have kk := kept_set wr bb (ob + k) (.int .u8 55)
          have ki : KI U T wr (wr.setCell ⟨bb, ob + k, none⟩ (.int .u8 55)) := KI.of_kept kk hb1 (Or.inl hb2)
          have H2 := hide (show SmI w U T N S (some ⟨bq, oq, none⟩) n cap A m c (wr.setCell ⟨bb, ob + k, none⟩ (.int .u8 55)) from ⟨hI.1.ki ki (Or.inr hT), hI.2.1.byte (.int .u8 55) hb3, hI.2.2.trans ki⟩)
          rw [ea] at y4
          have hkm' : (k : Int) < (m i : Nat) := by omega
          generalize cb[ob + k] = uu at z1
          generalize m i = mi at *
          generalize c i = ci at *
          clear hI kk ki hc2 ea hb3 hb4 hcm
          go_wp2_with fail
          go_roundw
          case rel => exact ⟨k + 1, by omega, by go_num, unhide H2⟩
          case measure => simp [intOf] <;> omega
        · have e9 : k = m i := by omega
          subst e9
          have k1 := al_below wr (.cells #[.int .u8 55, .int .u8 55] 5)
          have hg : (wr.alloc (.cells #[.int .u8 55, .int .u8 55] 5)).heap[wr.heap.size]? = some (.cells #[.int .u8 55, .int .u8 55] 5 (0, 0)) := heap_alloc_new _ _
          have c0 : (wr.alloc (.cells #[.int .u8 55, .int .u8 55] 5)).cell? ⟨wr.heap.size, 0, none⟩ = some (.int .u8 55) := by unfold World.cell?; rw [hg]; rfl
          have c1 : (wr.alloc (.cells #[.int .u8 55, .int .u8 55] 5)).cell? ⟨wr.heap.size, 1, none⟩ = some (.int .u8 55) := by unfold World.cell?; rw [hg]; rfl
          have C0 := hide c0; have C1 := hide c1; have K1 := hide k1; have HI2 := hide hI
          clear hI hg c0 c1 k1 hc2
          go_wp2_with (at_builtin; refine wpList_smB _ rfl _ _ rfl ((unhide HI2).2.1.below (unhide K1)) hin (by have := (unhide K1).size; omega) rfl wr.heap.size rfl (unhide C0) (unhide C1) ?_)
          intro r off c' u cz w5 hb hc hr1 hr2 hsm hki
          have hr3 : r < T ∨ wr.heap.size ≤ r := by have := (unhide K1).size; omega
          have fz : w5.frozen? ⟨r, off, none⟩ = false := by simp [World.frozen?, hb]
          have ki6 : KI U T wr (w5.setCell ⟨r, off, none⟩ (.int .u8 54)) := KI.put _ ((KI.of_below (unhide K1)).trans hki) hr1 hr3
          have sm6 := hsm.byte (x := off) (.int .u8 54) hb
          have bu6 := (unhide HI2).1.ki ki6 (Or.inr hT)
          obtain ⟨w6, e6⟩ : ∃ w6, w6 = w5.setCell ⟨r, off, none⟩ (.int .u8 54) := ⟨_, rfl⟩
          rw [← e6] at ki6 sm6 bu6
          have v2 := bu6.cell2
          obtain ⟨b3, o3, eb, _, _, hc3⟩ := sm6.cell (by omega)
          cases eb
          obtain ⟨u9, q0⟩ := (hc3 i hin).2.1 0 (by omega)
          have qf := (hc3 i hin).2.2 (oq + i * 5)
          rw [Nat.add_zero] at q0
          have kq : KI U T wr (w6.setCell ⟨bq, oq + i * 5, none⟩ (.int .i64 (-99))) := KI.put _ ki6 hq1 (Or.inl hq2)
          have H7 := hide (show SmI w U T N S (some ⟨bq, oq, none⟩) n cap A m c (w6.setCell ⟨bq, oq + i * 5, none⟩ (.int .i64 (-99))) from ⟨(unhide HI2).1.ki kq (Or.inr hT), sm6.num (k := 0) (.int .i64 (-99)) hin (by omega), (unhide HI2).2.2.trans kq⟩)
          have E6 := hide e6
          rw [e6] at v2 q0 qf
          clear hb hsm hki ki6 sm6 bu6 e6 hc3 kq
          go_wp2_with fail
          rw [← unhide E6]
          go_roundw
          case rel => exact ⟨i + 1, by omega, by go_num, unhide H7⟩
          case measure => simp [intOf] <;> omega
    · have e9 : i = n := by omega
      subst e9
      have k1 := al_below wo (.cells #[.int .i64 (-99), .int .i64 0, .int .i64 0, .int .i64 0, .slice none 0 0, .int .i64 (-99), .int .i64 0, .int .i64 0, .int .i64 0, .slice none 0 0] 32)
      have hg : (wo.alloc (.cells #[.int .i64 (-99), .int .i64 0, .int .i64 0, .int .i64 0, .slice none 0 0, .int .i64 (-99), .int .i64 0, .int .i64 0, .int .i64 0, .slice none 0 0] 32)).heap[wo.heap.size]? = some (.cells #[.int .i64 (-99), .int .i64 0, .int .i64 0, .int .i64 0, .slice none 0 0, .int .i64 (-99), .int .i64 0, .int .i64 0, .int .i64 0, .slice none 0 0] 32 (0, 0)) := heap_alloc_new _ _
      have HC := hide (show ∀ y u, two99[y]? = some u → (wo.alloc (.cells #[.int .i64 (-99), .int .i64 0, .int .i64 0, .int .i64 0, .slice none 0 0, .int .i64 (-99), .int .i64 0, .int .i64 0, .int .i64 0, .slice none 0 0] 32)).cell? ⟨wo.heap.size, y, none⟩ = some u from fun y u hu => by
        unfold World.cell?
        rw [hg]
        rw [← hu]
        unfold two99
        rw [← List.getElem?_toArray]
        rfl)
      have K1 := hide k1; have HI := hide hI
      clear hI hg k1
      go_wp2_with (at_builtin; refine wpList_smQ _ rfl _ _ rfl (U := U) (T := T) (unhide HI).2.1.1 ((unhide HI).2.1.below (unhide K1)).2.1 (by have := (unhide K1).size; omega) hn rfl wo.heap.size rfl (unhide HC) ?_)
      intro r off c' u w5 hc hf hr1 hr2 hki
      have hr3 : r < T ∨ wo.heap.size ≤ r := by have := (unhide K1).size; omega
      have K6 := hide ((unhide HI).2.2.trans (show KI U T wo (w5.setCell ⟨r, off + 1, none⟩ (.int .i64 (-98))) from KI.put _ ((KI.of_below (unhide K1)).trans hki) hr1 hr3))
      clear hki hr1 hr2 hr3
      go_wp2_with fail
      go_end0
      exact ⟨rfl, unhide K6⟩

end Go.Proofs.Ythjeedlhlkggkab
