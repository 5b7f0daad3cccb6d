/- Joined: MemChg, RefStp. -/
import Derived.Test.YtngmeaaglogieaaMemOK
import Derived.ArgAppend
import Derived.Test.YtngmeaaglogieaaNear50
namespace Go.Proofs.Ytngmeaaglogieaa
open Go.RowKit

/-- Changes as cells. -/
def chL : List (Int × Nat) → List Value
  | [] => []
  | c :: l => .int .i64 c.1 :: .int .i64 (c.2 : Nat) :: chL l
theorem chL_len (l : List (Int × Nat)) : (chL l).length = l.length * 2 := by
  induction l with
  | nil => rfl
  | cons c l ih => show (chL l).length + 1 + 1 = (l.length + 1) * 2; omega
theorem chL_append (l m : List (Int × Nat)) : chL (l ++ m) = chL l ++ chL m := by
  induction l with
  | nil => rfl
  | cons c l ih => show _ :: _ :: chL (l ++ m) = _ :: _ :: (chL l ++ chL m); rw [ih]
theorem chL_at {l : List (Int × Nat)} : ∀ {i : Nat} {c : Int × Nat}, l[i]? = some c → (chL l)[i * 2]? = some (.int .i64 c.1) ∧ (chL l)[i * 2 + 1]? = some (.int .i64 (c.2 : Nat)) := by
  induction l with
  | nil => intro i c h; simp at h
  | cons d l ih =>
    intro i c h
    cases i with
    | zero => simp at h; subst h; exact ⟨rfl, rfl⟩
    | succ i =>
      simp at h
      have := ih h
      rw [show (i + 1) * 2 = i * 2 + 1 + 1 by omega]
      exact this
theorem infoChg : (Try.prog.info? 94).map (fun i => (i.zero, i.size, i.bytes)) = some (some (.agg #[.int .i64 0, .int .i64 0]), 2, 16) := by kernel_rfl
/-- Rows of changes of one's own. -/
def OwnC (w : World) (B : Nat) (v : Value) (l : List (Int × Nat)) : Prop := w.ownsRow B 94 2 v l.length (chL l)
theorem OwnC.nil (w : World) (B : Nat) : OwnC w B (.slice none 0 0) [] := World.ownsRow_nil _ _ _ _
theorem OwnC.slice {w : World} {B : Nat} {v : Value} {l : List (Int × Nat)} (h : OwnC w B v l) : ∃ ao cap, v = .slice ao l.length cap := by
  rcases h.2 with ⟨rfl, h0⟩ | ⟨g, cap, cur, rfl, _⟩
  · exact ⟨none, 0, by rw [h0]⟩
  · exact ⟨_, cap, rfl⟩
theorem OwnC.kept {z B : Nat} {w w' : World} {v : Value} {l : List (Int × Nat)} (h : OwnC w B v l) (k : Kept z w w') (hz : z < B) : OwnC w' B v l := by
  refine ⟨h.1, ?_⟩
  rcases h.2 with hn | ⟨g, cap, cur, rfl, hb, hgg, rest⟩
  · exact .inl hn
  · exact .inr ⟨g, cap, cur, rfl, hb, (k.block g (lt_of_block hgg) (by omega)).trans hgg, rest⟩
theorem OwnC.below {B : Nat} {w w' : World} {v : Value} {l : List (Int × Nat)} (h : OwnC w B v l) (k : Below w.heap.size w w') : OwnC w' B v l := by
  refine ⟨h.1, ?_⟩
  rcases h.2 with hn | ⟨g, cap, cur, rfl, hb, hgg, rest⟩
  · exact .inl hn
  · exact .inr ⟨g, cap, cur, rfl, hb, (k.block g (lt_of_block hgg)).trans hgg, rest⟩
theorem OwnC.rd {w : World} {B cap n : Nat} {ao : Option Addr} {l : List (Int × Nat)} (h : OwnC w B (.slice ao n cap) l) : ChRd B w ao l := fun hl => by
  rcases h.2 with ⟨_, h0⟩ | ⟨g, c2, cur, e, hb, rest⟩
  · omega
  · cases e
    refine ⟨g, 0, rfl, hb, fun i c hi => ?_⟩
    obtain ⟨h1, h2⟩ := chL_at hi
    have c1 := h.cells (g := g) rfl _ _ h1
    have c2 := h.cells (g := g) rfl _ _ h2
    rw [Addr.add_lit] at c1 c2
    rw [← Nat.add_assoc] at c2
    exact ⟨c1, c2⟩
theorem wpList_joinC (w : World) {ops : Array Oper} {rest : List Oper} {o : Oper} {a : Act} {Q : Exit → Act → World → Prop} (hgd : o.guard = none) (s x : Operand)
    (ho : o.op = .call { callee := .builtin .append, args := #[s, x], argTypes := #[73, 73] }) (B : Nat) (hB : B ≤ w.heap.size)
    (v : Value) (l : List (Int × Nat)) (hs : a.eval s = v) (hown : OwnC w B v l) (b : Nat) (c : Int × Nat) (hx : a.eval x = .slice (some ⟨b, 0, none⟩) 1 1) (c0 : w.cell? ⟨b, 0, none⟩ = some (.int .i64 c.1)) (c1 : w.cell? ⟨b, 1, none⟩ = some (.int .i64 (c.2 : Nat))) (hl : l.length ≤ 1000)
    (h : ∀ v' w', OwnC w' B v' (l ++ [c]) → Below B w w' → wpList Try.prog ops Q rest (a.put o.dst v') w') : wpList Try.prog ops Q (o :: rest) a w := by
  obtain ⟨i0, hi, hz0, hz1, hz2⟩ := info_parts infoChg
  refine wpList_append_own w hgd s x 73 ho B 94 i0 (.agg #[.int .i64 0, .int .i64 0]) 2 16 Try.underlying73 hi hz0 hz1 hz2 rfl (by decide) v l.length (chL l) hs hown ⟨b, 0, none⟩ 1 1 (chL [c]) hx rfl ?_ ?_ (by unfold maxLen; omega) (by omega) hB ?_
  · intro j u hj
    rw [Addr.add_lit, Nat.zero_add]
    match j with
    | 0 => simp [chL] at hj; subst hj; exact c0
    | 1 => simp [chL] at hj; subst hj; exact c1
    | j + 2 => simp [chL] at hj
  · intro u hu
    simp [chL] at hu
    rcases hu with rfl | rfl <;> rfl
  · intro v' w2 ho2 hgr _
    refine h v' w2 ?_ ?_
    · unfold OwnC; rw [List.length_append, chL_append]; exact ho2
    · refine ⟨hgr.os, hgr.tape, hgr.output, hgr.size, fun k hk => hgr.block k (by omega) (fun e => ?_)⟩
      have := (hown.lt k e.symm).1
      omega

end Go.Proofs.Ytngmeaaglogieaa

namespace Go.Proofs.Ytngmeaaglogieaa
open Go.RowKit

/-- What lies in memory while a roll steps. -/
structure SJ (w : World) (R : Rl) (X : Int) (st : Bool) (s : Value) (wr : World) : Prop where
  r : RAt wr w.heap.size R
  v : VdAt wr (w.heap.size + 1) X st s
  z : RAt wr (w.heap.size + 1 + 1) zeroR
  k : Below w.heap.size w wr
  n : w.heap.size + 1 + 1 + 1 ≤ wr.heap.size
section
variable {w wr w' : World} {R R' : Rl} {X : Int} {st : Bool} {s : Value}
theorem SJ.below (h : SJ w R X st s wr) (k : Below wr.heap.size wr w') : SJ w R X st s w' := ⟨h.r.below k, h.v.below k, h.z.below k, h.k.trans (k.mono h.k.size), Nat.le_trans h.n k.size⟩
theorem SJ.under (h : SJ w R X st s wr) (k : Below (w.heap.size + 1 + 1 + 1) wr w') : SJ w R X st s w' := ⟨h.r.under k (by omega), h.v.under k (by omega), h.z.under k (by omega), h.k.trans (k.mono (by omega)), Nat.le_trans h.n k.size⟩
theorem SJ.put (h : SJ w R X st s wr) (k : Kept w.heap.size wr w') (r : RAt w' w.heap.size R') : SJ w R' X st s w' := ⟨r, h.v.kept k (by omega), h.z.kept k (by omega), below_of_kept h.k k (Nat.le_refl _) h.k.size, Nat.le_trans h.n k.size⟩
end
theorem step_start (w : World) (r : Rl) (X : Int) (st : Bool) (s : Value) : ∃ w3, w3 = ((w.alloc (.cells #[.bool (r.I 0), .bool (r.I 1), .bool (r.I 2), .bool (r.I 3), .int .i64 (r.M 0), .int .i64 (r.M 1), .int .i64 (r.M 2), .int .i64 (r.M 3), .int .i64 (r.J 0), .int .i64 (r.J 1), .int .i64 (r.J 2), .int .i64 (r.J 3)] 30)).alloc (.cells #[.int .i64 X, .bool st, s] 35)).alloc (.cells #[.bool false, .bool false, .bool false, .bool false, .int .i64 0, .int .i64 0, .int .i64 0, .int .i64 0, .int .i64 0, .int .i64 0, .int .i64 0, .int .i64 0] 30) ∧ SJ w r X st s w3 := by
  obtain ⟨w1, e1, m1, k1, z1⟩ := r_alloc w r
  obtain ⟨w2, e2, m2, k2, z2⟩ := vd_alloc w1 X st s
  obtain ⟨w3, e3, m3, k3, z3⟩ := r_alloc w2 zeroR
  rw [← e1, ← e2]
  rw [z1] at m2
  rw [z2, z1] at m3
  exact ⟨w3, e3, (m1.below k2).below k3, m2.below k3, m3, (k1.trans (k2.mono (by omega))).trans (k3.mono (by omega)), by omega⟩

set_option maxRecDepth 100000 in
set_option maxHeartbeats 8000000 in
theorem refStep_ok : StOK 43 := by
  intro r X st ao n cap A w hRJ _ hn hcap hs
  obtain ⟨w3, e3, j3⟩ := step_start w r X st (.slice ao n cap)
  have J3 := hide j3; have E3 := hide e3; have HR := hide hs.rd; have RJ := hide hRJ
  have v2 := j3.v.cell2
  have v2' : (((w.alloc (.cells #[.bool (r.I 0), .bool (r.I 1), .bool (r.I 2), .bool (r.I 3), .int .i64 (r.M 0), .int .i64 (r.M 1), .int .i64 (r.M 2), .int .i64 (r.M 3), .int .i64 (r.J 0), .int .i64 (r.J 1), .int .i64 (r.J 2), .int .i64 (r.J 3)] 30)).alloc (.cells #[.int .i64 X, .bool st, .slice ao n cap] 35)).alloc (.cells #[.bool false, .bool false, .bool false, .bool false, .int .i64 0, .int .i64 0, .int .i64 0, .int .i64 0, .int .i64 0, .int .i64 0, .int .i64 0, .int .i64 0] 30)).cell? ⟨w.heap.size + 1, 2, none⟩ = some (.slice ao n cap) := by rw [← e3]; exact v2
  clear j3 e3 hs hRJ v2
  by_cases h4 : n = 4
  · subst h4
    unfold rollV vdV
    go_enter Try.func43, Try.ntmps43
    go_wp2_with (refine wpList_loadRl _ rfl (.tmp 2) rfl rfl (by rw [← unhide E3]; exact (unhide J3).r) ?_)
    rw [← unhide E3]
    clear v2'
    refine (refGood_ok r _ (unhide RJ)).mono ?_
    rintro e w4 ⟨rfl, k4⟩
    have J4 := hide ((unhide J3).below k4)
    clear k4 J3 E3
    cases hg : gdA r with
    | false =>
      go_wp2_with (refine wpList_storeRl _ rfl (.tmp 4) (.tmp 19) rfl rfl (r := zeroR) rfl (unhide J4).z rfl ?_)
      intro w5 m5 k5
      have K5 := hide (below_of_kept (unhide J4).k k5 (by omega) (unhide J4).k.size)
      clear k5
      go_wp2_with fail
      have e : stR r st 4 A = (zeroR, [], 3) := by unfold stR; rw [if_neg (by omega), if_pos hg]
      have p0 := m5.inn (i := 0) (by omega)
      have p1 := m5.inn (i := 1) (by omega)
      have p2 := m5.inn (i := 2) (by omega)
      have p3 := m5.inn (i := 3) (by omega)
      have p4 := m5.mis (i := 0) (by omega)
      have p5 := m5.mis (i := 1) (by omega)
      have p6 := m5.mis (i := 2) (by omega)
      have p7 := m5.mis (i := 3) (by omega)
      have p8 := m5.joi (i := 0) (by omega)
      have p9 := m5.joi (i := 1) (by omega)
      have p10 := m5.joi (i := 2) (by omega)
      have p11 := m5.joi (i := 3) (by omega)
      refine bodyPost_ret (v := .tuple #[rollV zeroR, .slice none 0 0, .int .i64 3]) (by unfold rollV; simp [results, Try.results43, go_sem, p0, p1, p2, p3, p4, p5, p6, p7, p8, p9, p10, p11]) rfl ⟨none, 0, ?_, ?_, unhide K5⟩
      · rw [e]; rfl
      · rw [e]; exact fun h => absurd h (by decide)
    | true =>
      obtain ⟨x, o, rfl, hc⟩ := unhide HR (by omega)
      have HC := hide hc; have HG := hide hg
      clear hc hg HR
      go_wp2_with fail
      go_loopw [7, 8] (fun ls is wr => ∃ i : Nat, is = .int .i64 i ∧ i ≤ 4 ∧ (st = true ∨ i = 0) ∧ OwnC wr (w.heap.size + 1 + 1 + 1) ls (rnN A r i).2 ∧ SJ w (rnN A r i).1 X st (.slice (some ⟨x, o, none⟩) 4 cap) wr) (fun _ is _ => 4 - (intOf is).toNat)
      case atStart => exact ⟨0, rfl, by omega, Or.inr rfl, OwnC.nil _ _, unhide J4⟩
      case round =>
        obtain ⟨i, rfl, hi, hst, hO, hS⟩ := hrel
        rename World => wr
        have SX := hide hS; have OX := hide hO
        clear hS hO J4
        have c1 := (unhide SX).v.cell1
        by_cases hin : st = true ∧ i < 4
        · obtain ⟨rfl, hin⟩ := hin
          have hin' : (i : Int) < 4 := by omega
          have GB := hide (gdA_iff.1 (rn_good (A := A) (unhide HG) i) i hin)
          obtain ⟨m, em⟩ : ∃ m, (rnN A r i).1.M i = m := ⟨_, rfl⟩
          obtain ⟨t, et⟩ : ∃ t, (rnN A r i).1.J i = t := ⟨_, rfl⟩
          have cm := (unhide SX).r.mis hin; have cj := (unhide SX).r.joi hin
          have EM := hide em; have EJ := hide et
          rw [em] at cm
          rw [et] at cj
          clear em et hst
          go_wp2_with fail
          go_region
          have SD := hide ((unhide SX).below (below_drew (Below.refl _ _))); have OD := hide ((unhide OX).below (below_drew (Below.refl _ _)))
          obtain ⟨wd, ewd⟩ : ∃ wd, wr.drew = wd := ⟨_, rfl⟩
          rw [ewd] at SD OD ⊢
          clear SX OX ewd c1 cm cj
          have ci := (unhide SD).r.inn hin; have cm := (unhide SD).r.mis hin; have cj := (unhide SD).r.joi hin; have c2 := (unhide SD).v.cell2
          have ca : wd.cell? ⟨x, o + i, none⟩ = some (.bool (A i)) := at_below (unhide HC i hin) (unhide SD).k
          rw [unhide EM] at cm
          rw [unhide EJ] at cj
          cases hI : (rnN A r i).1.I i with
          | true =>
            have B := (gd_in hI).1 (unhide GB)
            rw [unhide EM] at B
            obtain ⟨b1, b2, _⟩ := B
            rw [hI] at ci
            cases hA : A i with
            | true =>
              rw [hA] at ca
              have ST := hide (st_agree hI hA)
              have f1 := (unhide SD).r.free (4 + i)
              have kk := kept_set wd w.heap.size (4 + i) (.int .i64 0)
              have S5 := hide (show SJ w (rnN A r (i + 1)).1 X true (.slice (some ⟨x, o, none⟩) 4 cap) (wd.setCell ⟨w.heap.size, 4 + i, none⟩ (.int .i64 0)) by
                show SJ w (stN A i (rnN A r i).1) X true (.slice (some ⟨x, o, none⟩) 4 cap) _
                rw [(unhide ST).1]
                exact (unhide SD).put kk ((unhide SD).r.setM hin 0))
              have O5 := hide (show OwnC (wd.setCell ⟨w.heap.size, 4 + i, none⟩ (.int .i64 0)) (w.heap.size + 1 + 1 + 1) u7 (rnN A r (i + 1)).2 by
                show OwnC _ _ u7 ((rnN A r i).2 ++ chN A i (rnN A r i).1)
                rw [(unhide ST).2, List.append_nil]
                exact (unhide OD).kept kk (by omega))
              clear kk SD OD
              go_wp2_with fail
              go_roundw
              case rel => exact ⟨i + 1, by go_num, by omega, Or.inl trivial, unhide O5, unhide S5⟩
              case measure => simp [intOf] <;> omega
            | false =>
              rw [hA] at ca
              by_cases h2 : 2 ≤ m + 1
              · have d2 : decide (2 ≤ m + 1) = true := decide_eq_true h2
                have p0 := (unhide SD).r.inn (i := 0) (by omega)
                have p1 := (unhide SD).r.inn (i := 1) (by omega)
                have p2 := (unhide SD).r.inn (i := 2) (by omega)
                have p3 := (unhide SD).r.inn (i := 3) (by omega)
                have p4 := (unhide SD).r.mis (i := 0) (by omega)
                have p5 := (unhide SD).r.mis (i := 1) (by omega)
                have p6 := (unhide SD).r.mis (i := 2) (by omega)
                have p7 := (unhide SD).r.mis (i := 3) (by omega)
                have p8 := (unhide SD).r.joi (i := 0) (by omega)
                have p9 := (unhide SD).r.joi (i := 1) (by omega)
                have p10 := (unhide SD).r.joi (i := 2) (by omega)
                have p11 := (unhide SD).r.joi (i := 3) (by omega)
                go_wp2_with fail
                refine (refCount_ok (rnN A r i).1 _).mono ?_
                rintro e w2 ⟨rfl, k2⟩
                have S2 := hide ((unhide SD).below k2); have O2 := hide ((unhide OD).below k2)
                clear k2 SD OD ci cm cj c2 ca p0 p1 p2 p3 p4 p5 p6 p7 p8 p9 p10 p11
                have hcl : cn (rnN A r i).1.I 4 ≤ 4 := cn_le _ _
                have cm2 := (unhide S2).r.mis hin; have ci2 := (unhide S2).r.inn hin
                rw [unhide EM] at cm2
                rw [hI] at ci2
                by_cases h3 : 2 < cn (rnN A r i).1.I 4
                · have ST := hide (st_out hI hA (by rw [unhide EM]; exact ⟨h2, h3⟩))
                  have h3' : (2 : Int) < ((cn (rnN A r i).1.I 4 : Nat) : Int) := by omega
                  have f1 := (unhide S2).r.free i
                  have q1 := (unhide S2).r.setI hin false
                  have g1 := q1.mis hin; have f2 := q1.free (4 + i)
                  have kk := (kept_set w2 w.heap.size i (.bool false)).trans (kept_set (w2.setCell ⟨w.heap.size, i, none⟩ (.bool false)) w.heap.size (4 + i) (.int .i64 0)) (Or.inl rfl)
                  have S4 := hide ((unhide S2).put kk (q1.setM hin 0)); have O4 := hide ((unhide O2).kept kk (by omega))
                  obtain ⟨w4, ew4⟩ : ∃ w4, (w2.setCell ⟨w.heap.size, i, none⟩ (.bool false)).setCell ⟨w.heap.size, 4 + i, none⟩ (.int .i64 0) = w4 := ⟨_, rfl⟩
                  rw [ew4] at S4 O4
                  have KA := hide (al_below w4 (.cells #[.int .i64 1, .int .i64 (i : Nat)] 94))
                  have V4 := hide (Vh.new w4 94 #[.int .i64 1, .int .i64 (i : Nat)] (fun t => if t = 0 then .int .i64 1 else .int .i64 (i : Nat)) (by show 2 ≤ maxLen; decide) (fun t ht => by
                    have : t = 0 ∨ t = 1 := by simp at ht; omega
                    rcases this with rfl | rfl <;> rfl))
                  have hl4 : (rnN A r i).2.length ≤ 1000 := by have := rn_len A r i; omega
                  clear kk q1 S2 O2
                  go_wp2_with (refine wpList_joinC _ rfl (.tmp 77) (.tmp 80) rfl (w.heap.size + 1 + 1 + 1) (Nat.le_trans (unhide S4).n (unhide KA).size) u7 (rnN A r i).2 rfl ((unhide O4).below (unhide KA)) w4.heap.size (1, i) rfl ((unhide V4).cell (i := 0) (by show 0 < 2; omega)) ((unhide V4).cell (i := 1) (by show 1 < 2; omega)) hl4 ?_)
                  intro v6 w6 o6 l6
                  have S6 := hide (show SJ w (rnN A r (i + 1)).1 X true (.slice (some ⟨x, o, none⟩) 4 cap) w6 by
                    show SJ w (stN A i (rnN A r i).1) X true (.slice (some ⟨x, o, none⟩) 4 cap) _
                    rw [(unhide ST).1]
                    exact ((unhide S4).below (unhide KA)).under l6)
                  have O6 := hide (show OwnC w6 (w.heap.size + 1 + 1 + 1) v6 (rnN A r (i + 1)).2 by
                    show OwnC _ _ v6 ((rnN A r i).2 ++ chN A i (rnN A r i).1)
                    rw [(unhide ST).2]
                    exact o6)
                  clear o6 l6 KA V4 S4 O4 ew4 f1 f2 g1
                  go_wp2_with fail
                  go_roundw
                  case rel => exact ⟨i + 1, by go_num, by omega, Or.inl trivial, unhide O6, unhide S6⟩
                  case measure => simp [intOf] <;> omega
                · have ST := hide (st_miss hI hA (by rw [unhide EM]; exact fun h => h3 h.2))
                  have h3' : ¬ (2 : Int) < ((cn (rnN A r i).1.I 4 : Nat) : Int) := by omega
                  have h4 : min (m + 1) 2 = 2 := by omega
                  have h5 : (if 2 < m + 1 then (2 : Int) else m + 1) = 2 := by split <;> omega
                  have f1 := (unhide S2).r.free (4 + i)
                  have kk := kept_set w2 w.heap.size (4 + i) (.int .i64 2)
                  have S5 := hide (show SJ w (rnN A r (i + 1)).1 X true (.slice (some ⟨x, o, none⟩) 4 cap) (w2.setCell ⟨w.heap.size, 4 + i, none⟩ (.int .i64 2)) by
                    show SJ w (stN A i (rnN A r i).1) X true (.slice (some ⟨x, o, none⟩) 4 cap) _
                    rw [(unhide ST).1, unhide EM, h4]
                    exact (unhide S2).put kk ((unhide S2).r.setM hin 2))
                  have O5 := hide (show OwnC (w2.setCell ⟨w.heap.size, 4 + i, none⟩ (.int .i64 2)) (w.heap.size + 1 + 1 + 1) u7 (rnN A r (i + 1)).2 by
                    show OwnC _ _ u7 ((rnN A r i).2 ++ chN A i (rnN A r i).1)
                    rw [(unhide ST).2, List.append_nil]
                    exact (unhide O2).kept kk (by omega))
                  clear kk S2 O2
                  go_wp2_with fail
                  go_roundw
                  case rel => exact ⟨i + 1, by go_num, by omega, Or.inl trivial, unhide O5, unhide S5⟩
                  case measure => simp [intOf] <;> omega
              · have d2 : decide (2 ≤ m + 1) = false := decide_eq_false h2
                have ST := hide (st_miss hI hA (by rw [unhide EM]; exact fun h => h2 h.1))
                have h4 : min (m + 1) 2 = m + 1 := by omega
                have f1 := (unhide SD).r.free (4 + i)
                have kk := kept_set wd w.heap.size (4 + i) (.int .i64 (m + 1))
                have S5 := hide (show SJ w (rnN A r (i + 1)).1 X true (.slice (some ⟨x, o, none⟩) 4 cap) (wd.setCell ⟨w.heap.size, 4 + i, none⟩ (.int .i64 (m + 1))) by
                  show SJ w (stN A i (rnN A r i).1) X true (.slice (some ⟨x, o, none⟩) 4 cap) _
                  rw [(unhide ST).1, unhide EM, h4]
                  exact (unhide SD).put kk ((unhide SD).r.setM hin (m + 1)))
                have O5 := hide (show OwnC (wd.setCell ⟨w.heap.size, 4 + i, none⟩ (.int .i64 (m + 1))) (w.heap.size + 1 + 1 + 1) u7 (rnN A r (i + 1)).2 by
                  show OwnC _ _ u7 ((rnN A r i).2 ++ chN A i (rnN A r i).1)
                  rw [(unhide ST).2, List.append_nil]
                  exact (unhide OD).kept kk (by omega))
                clear kk SD OD
                go_wp2_with fail
                go_roundw
                case rel => exact ⟨i + 1, by go_num, by omega, Or.inl trivial, unhide O5, unhide S5⟩
                case measure => simp [intOf] <;> omega
          | false =>
            have B := (gd_out hI).1 (unhide GB)
            rw [unhide EJ] at B
            obtain ⟨_, b1, b2⟩ := B
            rw [hI] at ci
            cases hA : A i with
            | true =>
              rw [hA] at ca
              by_cases h2 : 3 ≤ t + 1
              · have d2 : decide (3 ≤ t + 1) = true := decide_eq_true h2
                have ST := hide (st_in hI hA (by rw [unhide EJ]; exact h2))
                have f1 := (unhide SD).r.free i
                have q1 := (unhide SD).r.setI hin true
                have g1 := q1.joi hin; have f2 := q1.free (8 + i)
                have kk := (kept_set wd w.heap.size i (.bool true)).trans (kept_set (wd.setCell ⟨w.heap.size, i, none⟩ (.bool true)) w.heap.size (8 + i) (.int .i64 0)) (Or.inl rfl)
                have S4 := hide ((unhide SD).put kk (q1.setJ hin 0)); have O4 := hide ((unhide OD).kept kk (by omega))
                obtain ⟨w4, ew4⟩ : ∃ w4, (wd.setCell ⟨w.heap.size, i, none⟩ (.bool true)).setCell ⟨w.heap.size, 8 + i, none⟩ (.int .i64 0) = w4 := ⟨_, rfl⟩
                rw [ew4] at S4 O4
                have KA := hide (al_below w4 (.cells #[.int .i64 2, .int .i64 (i : Nat)] 94))
                have V4 := hide (Vh.new w4 94 #[.int .i64 2, .int .i64 (i : Nat)] (fun t => if t = 0 then .int .i64 2 else .int .i64 (i : Nat)) (by show 2 ≤ maxLen; decide) (fun t ht => by
                  have : t = 0 ∨ t = 1 := by simp at ht; omega
                  rcases this with rfl | rfl <;> rfl))
                have hl4 : (rnN A r i).2.length ≤ 1000 := by have := rn_len A r i; omega
                clear kk q1 SD OD
                go_wp2_with (refine wpList_joinC _ rfl (.tmp 113) (.tmp 116) rfl (w.heap.size + 1 + 1 + 1) (Nat.le_trans (unhide S4).n (unhide KA).size) u7 (rnN A r i).2 rfl ((unhide O4).below (unhide KA)) w4.heap.size (2, i) rfl ((unhide V4).cell (i := 0) (by show 0 < 2; omega)) ((unhide V4).cell (i := 1) (by show 1 < 2; omega)) hl4 ?_)
                intro v6 w6 o6 l6
                have S6 := hide (show SJ w (rnN A r (i + 1)).1 X true (.slice (some ⟨x, o, none⟩) 4 cap) w6 by
                  show SJ w (stN A i (rnN A r i).1) X true (.slice (some ⟨x, o, none⟩) 4 cap) _
                  rw [(unhide ST).1]
                  exact ((unhide S4).below (unhide KA)).under l6)
                have O6 := hide (show OwnC w6 (w.heap.size + 1 + 1 + 1) v6 (rnN A r (i + 1)).2 by
                  show OwnC _ _ v6 ((rnN A r i).2 ++ chN A i (rnN A r i).1)
                  rw [(unhide ST).2]
                  exact o6)
                clear o6 l6 KA V4 S4 O4 ew4 f1 f2 g1
                go_wp2_with fail
                go_roundw
                case rel => exact ⟨i + 1, by go_num, by omega, Or.inl trivial, unhide O6, unhide S6⟩
                case measure => simp [intOf] <;> omega
              · have d2 : decide (3 ≤ t + 1) = false := decide_eq_false h2
                have ST := hide (st_join hI hA (by rw [unhide EJ]; exact h2))
                have f1 := (unhide SD).r.free (8 + i)
                have kk := kept_set wd w.heap.size (8 + i) (.int .i64 (t + 1))
                have S5 := hide (show SJ w (rnN A r (i + 1)).1 X true (.slice (some ⟨x, o, none⟩) 4 cap) (wd.setCell ⟨w.heap.size, 8 + i, none⟩ (.int .i64 (t + 1))) by
                  show SJ w (stN A i (rnN A r i).1) X true (.slice (some ⟨x, o, none⟩) 4 cap) _
                  rw [(unhide ST).1, unhide EJ]
                  exact (unhide SD).put kk ((unhide SD).r.setJ hin (t + 1)))
                have O5 := hide (show OwnC (wd.setCell ⟨w.heap.size, 8 + i, none⟩ (.int .i64 (t + 1))) (w.heap.size + 1 + 1 + 1) u7 (rnN A r (i + 1)).2 by
                  show OwnC _ _ u7 ((rnN A r i).2 ++ chN A i (rnN A r i).1)
                  rw [(unhide ST).2, List.append_nil]
                  exact (unhide OD).kept kk (by omega))
                clear kk SD OD
                go_wp2_with fail
                go_roundw
                case rel => exact ⟨i + 1, by go_num, by omega, Or.inl trivial, unhide O5, unhide S5⟩
                case measure => simp [intOf] <;> omega
            | false =>
              rw [hA] at ca
              have ST := hide (st_off hI hA)
              have f1 := (unhide SD).r.free (8 + i)
              have kk := kept_set wd w.heap.size (8 + i) (.int .i64 0)
              have S5 := hide (show SJ w (rnN A r (i + 1)).1 X true (.slice (some ⟨x, o, none⟩) 4 cap) (wd.setCell ⟨w.heap.size, 8 + i, none⟩ (.int .i64 0)) by
                show SJ w (stN A i (rnN A r i).1) X true (.slice (some ⟨x, o, none⟩) 4 cap) _
                rw [(unhide ST).1]
                exact (unhide SD).put kk ((unhide SD).r.setJ hin 0))
              have O5 := hide (show OwnC (wd.setCell ⟨w.heap.size, 8 + i, none⟩ (.int .i64 0)) (w.heap.size + 1 + 1 + 1) u7 (rnN A r (i + 1)).2 by
                show OwnC _ _ u7 ((rnN A r i).2 ++ chN A i (rnN A r i).1)
                rw [(unhide ST).2, List.append_nil]
                exact (unhide OD).kept kk (by omega))
              clear kk SD OD
              go_wp2_with fail
              go_roundw
              case rel => exact ⟨i + 1, by go_num, by omega, Or.inl trivial, unhide O5, unhide S5⟩
              case measure => simp [intOf] <;> omega
        · have RE := hide (show ((rnN A r i).1, (rnN A r i).2, (0 : Int)) = stR r st 4 A by
            cases st with
            | true =>
              have e4 : i = 4 := by
                by_cases h : i < 4
                · exact absurd ⟨rfl, h⟩ hin
                · omega
              subst e4
              rw [stR_strong (unhide HG)]
            | false =>
              have e0 : i = 0 := by rcases hst with h | h; cases h; exact h
              subst e0
              rw [stR_weak (unhide HG)]; rfl)
          obtain ⟨lo, lc, el⟩ := (unhide OX).slice
          have KK := hide (unhide SX).k
          subst el
          have hx : (st = false ∧ i = 0) ∨ (st = true ∧ i = 4) := by
            cases st with
            | true => exact Or.inr ⟨rfl, by
                by_cases h : i < 4
                · exact absurd ⟨rfl, h⟩ hin
                · omega⟩
            | false => exact Or.inl ⟨rfl, by rcases hst with h | h; cases h; exact h⟩
          rcases hx with ⟨rfl, rfl⟩ | ⟨rfl, rfl⟩
          · rw [show ((0 : Nat) : Int) = 0 from rfl]
            clear hin hst hi
            go_wp2_with (first | refine wpList_loadRl _ rfl (.tmp 2) rfl rfl (unhide SX).r ?_ | (refine wpList_storeRl _ rfl (.tmp 4) (.tmp 118) rfl rfl rfl (unhide SX).z rfl ?_; intro w5 m5 k5))
            have K5 := hide (below_of_kept (unhide KK) k5 (by omega) (unhide KK).size)
            have C5 := hide (((unhide OX).kept k5 (by omega)).rd.weak (show w.heap.size ≤ w.heap.size + 1 + 1 + 1 by omega))
            clear k5
            go_wp2_with fail
            have p0 := m5.inn (i := 0) (by omega)
            have p1 := m5.inn (i := 1) (by omega)
            have p2 := m5.inn (i := 2) (by omega)
            have p3 := m5.inn (i := 3) (by omega)
            have p4 := m5.mis (i := 0) (by omega)
            have p5 := m5.mis (i := 1) (by omega)
            have p6 := m5.mis (i := 2) (by omega)
            have p7 := m5.mis (i := 3) (by omega)
            have p8 := m5.joi (i := 0) (by omega)
            have p9 := m5.joi (i := 1) (by omega)
            have p10 := m5.joi (i := 2) (by omega)
            have p11 := m5.joi (i := 3) (by omega)
            refine bodyPost_ret (v := .tuple #[rollV (rnN A r 0).1, .slice lo (rnN A r 0).2.length lc, .int .i64 0]) (by unfold rollV; simp [results, Try.results43, go_sem, p0, p1, p2, p3, p4, p5, p6, p7, p8, p9, p10, p11]) rfl ⟨lo, lc, by rw [← unhide RE]; rfl, by rw [← unhide RE]; exact unhide C5, unhide K5⟩
          · rw [show ((4 : Nat) : Int) = 4 from rfl]
            clear hin hst hi
            go_wp2_with (first | refine wpList_loadRl _ rfl (.tmp 2) rfl rfl (unhide SX).r ?_ | (refine wpList_storeRl _ rfl (.tmp 4) (.tmp 118) rfl rfl rfl (unhide SX).z rfl ?_; intro w5 m5 k5))
            have K5 := hide (below_of_kept (unhide KK) k5 (by omega) (unhide KK).size)
            have C5 := hide (((unhide OX).kept k5 (by omega)).rd.weak (show w.heap.size ≤ w.heap.size + 1 + 1 + 1 by omega))
            clear k5
            go_wp2_with fail
            have p0 := m5.inn (i := 0) (by omega)
            have p1 := m5.inn (i := 1) (by omega)
            have p2 := m5.inn (i := 2) (by omega)
            have p3 := m5.inn (i := 3) (by omega)
            have p4 := m5.mis (i := 0) (by omega)
            have p5 := m5.mis (i := 1) (by omega)
            have p6 := m5.mis (i := 2) (by omega)
            have p7 := m5.mis (i := 3) (by omega)
            have p8 := m5.joi (i := 0) (by omega)
            have p9 := m5.joi (i := 1) (by omega)
            have p10 := m5.joi (i := 2) (by omega)
            have p11 := m5.joi (i := 3) (by omega)
            refine bodyPost_ret (v := .tuple #[rollV (rnN A r 4).1, .slice lo (rnN A r 4).2.length lc, .int .i64 0]) (by unfold rollV; simp [results, Try.results43, go_sem, p0, p1, p2, p3, p4, p5, p6, p7, p8, p9, p10, p11]) rfl ⟨lo, lc, by rw [← unhide RE]; rfl, by rw [← unhide RE]; exact unhide C5, unhide K5⟩
  · have h4' : (n : Int) ≠ 4 := by omega
    have t4 : ((n : Int) != 4) = true := by simp [h4']
    unfold rollV vdV
    go_enter Try.func43, Try.ntmps43
    go_wp2_with (refine wpList_storeRl _ rfl (.tmp 4) (.tmp 15) rfl rfl (r := zeroR) rfl (by rw [← unhide E3]; exact (unhide J3).z) rfl ?_)
    intro w5 m5 k5
    rw [← unhide E3] at k5
    have K5 := hide (below_of_kept (unhide J3).k k5 (by omega) (unhide J3).k.size)
    clear k5 v2'
    go_wp2_with fail
    have e : stR r st n A = (zeroR, [], 8) := by unfold stR; rw [if_pos h4]
    have p0 := m5.inn (i := 0) (by omega)
    have p1 := m5.inn (i := 1) (by omega)
    have p2 := m5.inn (i := 2) (by omega)
    have p3 := m5.inn (i := 3) (by omega)
    have p4 := m5.mis (i := 0) (by omega)
    have p5 := m5.mis (i := 1) (by omega)
    have p6 := m5.mis (i := 2) (by omega)
    have p7 := m5.mis (i := 3) (by omega)
    have p8 := m5.joi (i := 0) (by omega)
    have p9 := m5.joi (i := 1) (by omega)
    have p10 := m5.joi (i := 2) (by omega)
    have p11 := m5.joi (i := 3) (by omega)
    refine bodyPost_ret (v := .tuple #[rollV zeroR, .slice none 0 0, .int .i64 8]) (by unfold rollV; simp [results, Try.results43, go_sem, p0, p1, p2, p3, p4, p5, p6, p7, p8, p9, p10, p11]) rfl ⟨none, 0, ?_, ?_, unhide K5⟩
    · rw [e]; rfl
    · rw [e]; exact fun h => absurd h (by decide)

end Go.Proofs.Ytngmeaaglogieaa
