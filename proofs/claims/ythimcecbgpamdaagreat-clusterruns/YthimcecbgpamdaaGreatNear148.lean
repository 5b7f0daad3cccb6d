/- Joined: ClMem, ClPh, NodTkn, NodDcP, ClOk, WireTell, RefMsg, SumBits, RefSum, SumTurn. -/
import Derived.Test.YthimcecbgpamdaaGreatNear91
import Derived.Test.YthimcecbgpamdaaGreatNear29
import Derived.Test.YthimcecbgpamdaaGreatNear157
import Derived.Test.YthimcecbgpamdaaGreatNear166
import Derived.Test.YthimcecbgpamdaaGreatNear141
import Derived.Test.YthimcecbgpamdaaGreatNear90
import Derived.Test.YthimcecbgpamdaaGreatNear167
import Derived.Laws.BitsLemmas
import Derived.Test.YthimcecbgpamdaaGreatNear95
namespace Go.Proofs.YthimcecbgpamdaaGreat
open Go.RowKit

/-- The cells of four computers; of an input; of a lie; of four messages; of a frame at work. -/
def clF (fr : Int) (nd : Nat → Nd) (v : Nat → Value) (j : Nat) : Value := if j = 0 then iV fr else ndF (nd ((j - 1) / 74)) (v ((j - 1) / 74)) ((j - 1) % 74)
def ipF (rd : Nat → Nat → Int) (bad : Int) (lv : Value) (j : Nat) : Value := if j < 12 then iV (rd (j / 3) (j % 3)) else if j = 12 then iV bad else lv
def lyF (ph wo : Int) (v : Value) (j : Nat) : Value := if j = 0 then iV ph else if j = 1 then iV wo else v
def m4F (m : Nat → Ms) (v : Nat → Value) (j : Nat) : Value := msF (m (j / 4)).K (m (j / 4)).F (m (j / 4)).R (v (j / 4)) (j % 4)
def wkF (fr : Int) (nd : Nat → Nd) (v : Nat → Value) (bad : Int) (lv : Value) (bx : Nat → Value) (j : Nat) : Value := if j < 297 then clF fr nd v j else if j = 297 then iV bad else if j = 298 then lv else bx (j - 299)
/-- A slice. -/
def slV (a : Option Addr × Nat) (n : Nat) : Value := .slice a.1 n a.2
theorem clF_nd (fr : Int) (nd : Nat → Nd) (v : Nat → Value) {i j : Nat} (hj : j < 74) : clF fr nd v (1 + i * 74 + j) = ndF (nd i) (v i) j := by grind [clF]
theorem clF_set (fr : Int) (nd : Nat → Nd) (v : Nat → Value) (i : Nat) (n : Nd) (u : Value) : ∀ j, j < 297 → stP (clF fr nd v) (1 + i * 74) 74 (ndF n u) j = clF fr (upM nd i n) (upM v i u) j := by
  intro j hj
  unfold stP
  by_cases c : 1 + i * 74 ≤ j ∧ j < 1 + i * 74 + 74
  · rw [if_pos c]
    unfold clF
    rw [if_neg (by omega), show (j - 1) / 74 = i by omega, show (j - 1) % 74 = j - (1 + i * 74) by omega, upM_same, upM_same]
  · rw [if_neg c]
    unfold clF
    by_cases c0 : j = 0
    · rw [if_pos c0, if_pos c0]
    · rw [if_neg c0, if_neg c0]
      have : (j - 1) / 74 ≠ i := by omega
      rw [upM_other _ _ this, upM_other _ _ this]
theorem clF_one (fr : Int) (nd : Nat → Nd) (a : Nat → Option Addr × Nat) (n : Nat → Nat) : ∀ j, j < 297 → (clF fr nd (fun i => slV (a i) (n i)) j).oneCell' = true := by
  intro j _
  unfold clF
  split
  · rfl
  · exact ndF_one _ _ _ _ _ (Nat.mod_lt _ (by decide))
theorem ipF_one (rd : Nat → Nat → Int) (bad : Int) (ao : Option Addr) (n c : Nat) : ∀ j, j < 14 → (ipF rd bad (.slice ao n c) j).oneCell' = true := by
  intro j _
  unfold ipF
  split
  · rfl
  · split <;> rfl
theorem lyF_one (ph wo : Int) (ao : Option Addr) (n c : Nat) : ∀ j, j < 3 → (lyF ph wo (.slice ao n c) j).oneCell' = true := by
  intro j _
  unfold lyF
  split
  · rfl
  · split <;> rfl
theorem m4F_at (m : Nat → Ms) (v : Nat → Value) {i j : Nat} (hj : j < 4) : m4F m v (i * 4 + j) = msF (m i).K (m i).F (m i).R (v i) j := by
  unfold m4F
  rw [show (i * 4 + j) / 4 = i by omega, show (i * 4 + j) % 4 = j by omega]
theorem m4F_one (m : Nat → Ms) (a : Nat → Option Addr × Nat) (n : Nat → Nat) : ∀ j, j < 16 → (m4F m (fun i => slV (a i) (n i)) j).oneCell' = true := by
  intro j _
  exact msF_one _ _ _ _ _ _ _ (Nat.mod_lt _ (by decide))
theorem m4F_set (m : Nat → Ms) (v : Nat → Value) (i : Nat) (n : Ms) (u : Value) : ∀ j, j < 16 → stP (m4F m v) (i * 4) 4 (msF n.K n.F n.R u) j = m4F (upM m i n) (upM v i u) j := by
  intro j hj
  unfold stP
  by_cases c : i * 4 ≤ j ∧ j < i * 4 + 4
  · rw [if_pos c]
    unfold m4F
    rw [show j / 4 = i by omega, show j % 4 = j - i * 4 by omega, upM_same, upM_same]
  · rw [if_neg c]
    unfold m4F
    have : j / 4 ≠ i := by omega
    rw [upM_other _ _ this, upM_other _ _ this]
theorem wkF_cl {fr : Int} {nd : Nat → Nd} {v : Nat → Value} {bad : Int} {lv : Value} {bx : Nat → Value} {j : Nat} (hj : j < 297) : wkF fr nd v bad lv bx j = clF fr nd v j := if_pos hj
theorem wkF_set (fr : Int) (nd : Nat → Nd) (v : Nat → Value) (bad : Int) (lv : Value) (bx : Nat → Value) {i : Nat} (hi : i < 4) (n : Nd) (u : Value) : ∀ j, j < 303 → stP (wkF fr nd v bad lv bx) (1 + i * 74) 74 (ndF n u) j = wkF fr (upM nd i n) (upM v i u) bad lv bx j := by
  intro j hj
  by_cases c : j < 297
  · rw [wkF_cl c, ← clF_set fr nd v i n u j c]
    unfold stP
    split
    · rfl
    · exact wkF_cl c
  · rw [stP_out _ _ (by omega)]
    unfold wkF
    rw [if_neg c, if_neg c]
theorem wkF_bx (fr : Int) (nd : Nat → Nd) (v : Nat → Value) (bad : Int) (lv : Value) (bx : Nat → Value) (i : Nat) (u : Value) : ∀ j, j < 303 → stW (wkF fr nd v bad lv bx) (299 + i) u j = wkF fr nd v bad lv (upM bx i u) j := by grind [wkF, stW_same, Nat.add_sub_cancel_left, upM_same, stW_other, upM_other]
/-- The same cells, written over whole. -/
instance : ZerK Tryz.prog 40 297 (clF 0 (fun _ => zeroN) (fun _ => slV (none, 0) 0)) := ⟨fun w => by kernel_rfl⟩
instance : ZerK Tryz.prog 43 14 (ipF (fun _ _ => 0) 0 (.slice none 0 0)) := ⟨fun w => by kernel_rfl⟩
instance : ZerK Tryz.prog 78 3 (lyF 0 0 (.slice none 0 0)) := ⟨fun w => by kernel_rfl⟩
instance : ZerK Tryz.prog 86 14 (rpF zeroN) := ⟨zeroRp⟩
instance : ZerK Tryz.prog 68 16 (m4F (fun _ => zeroM) (fun _ => slV (none, 0) 0)) := ⟨fun w => by kernel_rfl⟩
theorem run_bldC0 {f : Operand → Value} {o : Oper} (ho : o.op = .build 40 #[]) (w : World) : (execOp f o).run Tryz.prog w = .ok (.value (agV (clF 0 (fun _ => zeroN) (fun _ => slV (none, 0) 0)) 0 297)) w := by
  unfold execOp
  rw [ho]
  kernel_rfl
/-- Messages of one's own, as a thing in memory. -/
def omI (B : Nat) (v : Value) (L : List Lm) : It := ⟨fun w => OwnM w B v L, fun k => v.ownBlock = some k ∨ ∃ c, c ∈ L ∧ (lmV c).ownBlock = some k,
  fun h e => ⟨rw_same h.1 (fun k hk => e k (h.1.lt k hk).2 (Or.inl hk)), fun c hc => rw_same (h.2 c hc) (fun k hk => e k ((h.2 c hc).lt k hk).2 (Or.inr ⟨c, hc, hk⟩))⟩,
  fun h e => by
    rcases e with e | ⟨c, hc, e⟩
    · exact (h.1.lt _ e).2
    · exact ((h.2 c hc).lt _ e).2⟩
theorem om_up {B : Nat} {v : Value} {L : List Lm} {w : World} (h : OwnM w B v L) : ∀ j, (omI B v L).foot j → B ≤ j := fun j e => by
  rcases e with e | ⟨c, hc, e⟩
  · exact (h.1.lt _ e).1
  · exact ((h.2 c hc).lt _ e).1
theorem OwnM.base {w : World} {B C : Nat} {v : Value} {L : List Lm} (h : OwnM w B v L) (e : C ≤ B) : OwnM w C v L := ⟨rw_base h.1 e, fun c hc => rw_base (h.2 c hc) e⟩
/-- Messages appended to messages. -/
theorem om_join {w0 w w' : World} {v u v' : Value} {L M : List Lm} {l : List It} (H : Cx w0 w (omI w0.heap.size v L :: omI w0.heap.size u M :: l)) (h2 : w'.ownsRow w0.heap.size 67 4 v' (L.length + M.length) (lmL L ++ lmL M)) (h3 : w.grownBy w' v.ownBlock) (h4 : ∀ k, v'.ownBlock = some k → v.ownBlock = some k ∨ w.heap.size ≤ k) : Cx w0 w' (omI w0.heap.size v' (L ++ M) :: l) := by
  have hL : OwnM w w0.heap.size v L := H.o0
  have hM : OwnM w w0.heap.size u M := H.o1
  have apart : ∀ c, OwnV w w0.heap.size c → ∀ k, (lmV c).ownBlock = some k → some k ≠ v.ownBlock := fun c hc k hk e => by
    obtain ⟨u1, hu1⟩ := own_type hc hk
    obtain ⟨u2, hu2⟩ := own_type hL.1 e.symm
    rw [hu1] at hu2
    cases hu2
  have kp : ∀ c, OwnV w w0.heap.size c → OwnV w' w0.heap.size c := fun c hc => rw_same hc (fun k hk => h3.block k (hc.lt k hk).2 (apart c hc k hk))
  have hn : OwnM w' w0.heap.size v' (L ++ M) := ⟨by rw [List.length_append, lmL_append]; exact h2, fun c hc => by
    rcases List.mem_append.1 hc with hc | hc
    · exact kp c (hL.2 c hc)
    · exact kp c (hM.2 c hc)⟩
  refine H.merge.a0.put (y := (omI w0.heap.size v' (L ++ M))) ⟨h3.os, h3.tape, h3.output, h3.size, fun j h5 h6 => h3.block j h5 (fun e => h6 (Or.inl (Or.inl e.symm))), hn, fun j hj => ?_⟩
  rcases hj with hj | ⟨c, hc, hj⟩
  · rcases h4 j hj with h | h
    · exact Or.inl (Or.inl (Or.inl h))
    · exact Or.inr h
  · rcases List.mem_append.1 hc with hc | hc
    · exact Or.inl (Or.inl (Or.inr ⟨c, hc, hj⟩))
    · exact Or.inl (Or.inr (Or.inr ⟨c, hc, hj⟩))
theorem q_apM {ops : Array Oper} {Q : Exit → Act → World → Prop} {A : Act} {L' : List (Nat × Value)} {w0 w : World} {rest : List Oper} {o : Oper} {d : Nat} {l : List It} {L M : List Lm} {v u : Value} {s x : Operand} (H : Cx w0 w (omI w0.heap.size v L :: omI w0.heap.size u M :: l)) (hl : L.length + M.length ≤ 2932031007401)
    (h : ∀ v' w', Cx w0 w' (omI w0.heap.size v' (L ++ M) :: l) → LstI Tryz.prog ops Q rest (putL A ((d, v') :: L')) w')
    (ho : o.op = .call { callee := .builtin .append, args := #[s, x], argTypes := #[71, 71] } := by rfl) (hs : (putL A L').eval s = v := by exact Qv) (hx : (putL A L').eval x = u := by exact Qv) (hd : o.dst = some d := by rfl) (hw : Region.wanted o (yielded ops (putL A L').tmps) = true := by exact wanted_rd rfl) : LstI Tryz.prog ops Q (o :: rest) (putL A L') w := by
  have hL : OwnM w w0.heap.size v L := H.o0
  have hM : OwnM w w0.heap.size u M := H.o1
  exact m_do hd hw (fun _ hK => wp_joinA ho inferInstance H.size hs hx hL.1 (rdc_own hM.1) lmL_one (by unfold maxLen; omega) (by omega) (fun v' w' h2 h3 h4 => hK _ _ (h v' w' (om_join H h2 h3 h4))))
/-- A message's row of its own. -/
theorem own_oneM {w : World} {b B : Nat} {c : Lm} (h : Vh 67 w b 4 4 (lmF c)) (hb : B ≤ b) : w.ownsRow B 67 4 (.slice (some ⟨b, 0, none⟩) 1 1) 1 (lmL [c]) := by
  obtain ⟨cur, h1, h2, h3, h4, h5⟩ := h
  refine ⟨rfl, Or.inr ⟨b, 1, cur, rfl, hb, h1, Nat.le_refl _, by decide, by omega, ?_⟩⟩
  apply List.ext_getElem?
  intro i
  rw [List.getElem?_take]
  by_cases hi : i < 1 * 4
  · rw [if_pos hi, Array.getElem?_toList, h5 i (by omega)]
    have := lmL_at [c] 0 c rfl i (by omega)
    rw [Nat.zero_mul, Nat.zero_add] at this
    exact this.symm
  · rw [if_neg hi, List.getElem?_eq_none (by rw [lmL_len]; exact Nat.le_of_not_lt hi)]
/-- The only message of a list, in a row of its own. -/
theorem om_swap {w0 w w' : World} {u : Value} {c : Lm} {l : List It} {x : It} (H : Cx w0 w (x :: omI w0.heap.size u [c] :: l)) (k : Below w.heap.size w w') (m : Vh 67 w' w.heap.size 4 4 (lmF c)) : Cx w0 w' (x :: omI w0.heap.size (.slice (some ⟨w.heap.size, 0, none⟩) 1 1) [c] :: l) := by
  have hM : OwnM w w0.heap.size u [c] := H.o1
  refine H.a1.put (y := (omI w0.heap.size (.slice (some ⟨w.heap.size, 0, none⟩) 1 1) [c])) ⟨k.os, k.tape, k.output, k.size, fun j h5 _ => k.block j h5, ⟨own_oneM m H.size, fun d hd => rw_below (hM.2 d hd) k⟩, fun j hj => ?_⟩
  rcases hj with hj | hj
  · cases hj; exact Or.inr (Nat.le_refl _)
  · exact Or.inl (Or.inr hj)
/-- A lie, and where its bytes lie. -/
structure Lj where
  y : Ly
  ao : Option Addr
  cap : Nat
def ljV (c : Lj) : Value := .slice c.ao c.y.n c.cap
def ljF (c : Lj) : Nat → Value := lyF c.y.ph c.y.wo (ljV c)
/-- A list of lies in memory. -/
def LjRd (w : World) (ao : Option Addr) (L : List Lj) : Prop := 0 < L.length → ∃ b o, ao = some ⟨b, o, none⟩ ∧ ∀ i c, L[i]? = some c → ∀ k, k < 3 → w.cell? ⟨b, o + i * 3 + k, none⟩ = some (ljF c k)
def LbRd (w : World) (c : Lj) : Prop := Sr w c.ao c.y.n c.cap (bF c.y.g) ∧ c.y.n ≤ c.cap ∧ c.y.n ≤ 140737488351232 ∧ ∀ i, c.y.g i < 256
def JRd (w : World) (ao : Option Addr) (L : List Lj) : Prop := LjRd w ao L ∧ ∀ c, c ∈ L → LbRd w c
theorem JRd.below {w w' : World} {ao : Option Addr} {L : List Lj} (h : JRd w ao L) (k : Below w.heap.size w w') : JRd w' ao L := ⟨fun hl => by
  obtain ⟨b, o, e, hc⟩ := h.1 hl
  exact ⟨b, o, e, fun i c hi j hj => at_below (hc i c hi j hj) k⟩, fun c hc => ⟨(h.2 c hc).1.below k, (h.2 c hc).2⟩⟩
/-- A part of a value, counted from its beginning. -/
theorem agV_cong {g f : Nat → Value} {o n : Nat} (h : ∀ j, j < n → g (o + j) = f j) : agV g o n = agV f 0 n := by
  unfold agV
  congr 2
  refine List.map_congr_left fun j hj => ?_
  rw [h j (List.mem_range.1 hj), Nat.zero_add]
section
variable {P : Program} {Q : Exit → Act → World → Prop} {a : Act} {w : World} {y : Code} {id id2 : Nat} {ops : Array Oper}
theorem c_fin2 (h : CodI P y Q a w) : CodI P .skip (Exit.inBlock id (Exit.inBlock id2 (Nx P y Q))) a w := c_skip h
theorem l_fin2 (h : CodI P y Q a w) : LstI P ops (Exit.inBlock id (Exit.inBlock id2 (Nx P y Q))) [] a w := ⟨wpList_nil h⟩
end

end Go.Proofs.YthimcecbgpamdaaGreat

namespace Go.Proofs.YthimcecbgpamdaaGreat
open Go.RowKit

section
variable {n : Nd} {s : Nat} {kind : Int} {many : Nat}
theorem frst_app (a b : List Ms) : frst n (a ++ b) s kind many = (frst n a s kind many).or (frst n b s kind many) := by
  unfold frst
  rw [List.find?_append]
  cases List.find? _ a <;> rfl
theorem frst_no {l : List Ms} (h : ∀ m, m ∈ l → m.F ≠ (s : Int)) : frst n l s kind many = none := by
  unfold frst
  rw [Option.map_eq_none_iff, List.find?_eq_none]
  intro m hm c
  simp only [Bool.and_eq_true, decide_eq_true_eq] at c
  exact h m hm c.1.1.1.1
theorem frst_wr {m : Ms} (h1 : m.F = (s : Int)) (h2 : n.id ≠ (s : Int)) (h3 : m.K = kind) (h4 : m.R = n.fr) (h5 : m.L.length = many) (h6 : wrongM m.K m.F m.R m.L.length = 0) : frst n (wrM m) s kind many = some m.L := by
  unfold frst wrM
  rw [if_pos h6, List.find?_cons]
  have e : (decide (m.F = (s : Int)) && decide (m.F ≠ n.id) && decide (m.K = kind) && decide (m.R = n.fr) && decide (m.L.length = many)) = true := by
    rw [decide_eq_true h1, decide_eq_true (by rw [h1]; exact fun e => h2 e.symm), decide_eq_true h3, decide_eq_true h4, decide_eq_true h5]; rfl
  rw [e]
  rfl
end
theorem liM_F {bad wo ph : Int} {l : List Ly} {m : Ms} (h : m ∈ liM bad wo ph l) : m.F = bad := by
  unfold liM at h
  obtain ⟨y, _, h2⟩ := List.mem_flatMap.1 h
  split at h2
  · simpa using (List.mem_filter.1 h2).2
  · cases h2
theorem wrM_F {m m' : Ms} (h : m' ∈ wrM m) : m' = m := by
  unfold wrM at h
  split at h
  · simpa using h
  · cases h
/-- What is heard of s in a box. -/
theorem frst_bx {x : Ip} {told : Nat → Ms} {n : Nd} {s wo ph : Nat} {kind : Int} {many : Nat} (hF : ∀ j : Nat, j < 4 → (j : Int) ≠ x.bad → (told j).F = (j : Nat)) (hs : s ≠ wo) :
    ∀ k, k ≤ 4 → frst n (bxM x told wo ph k) s kind many = if s < k then (if (s : Int) = x.bad then frst n (liM x.bad wo ph x.ly) s kind many else frst n (wrM (told s)) s kind many) else none
  | 0, _ => by rw [if_neg (by omega)]; rfl
  | k + 1, hk => by
    have ih := frst_bx (n := n) (ph := ph) (kind := kind) (many := many) hF hs k (by omega)
    show frst n (bxM x told wo ph k ++ _) s kind many = _
    rw [frst_app, ih]
    by_cases c : s = k
    · subst c
      rw [if_neg (Nat.lt_irrefl s), if_neg hs, if_pos (Nat.lt_succ_self s)]
      split
      · rw [Option.none_or]
      · rw [Option.none_or]
    · have e : frst n (if k = wo then [] else if (k : Int) = x.bad then liM x.bad wo ph x.ly else wrM (told k)) s kind many = none := by
        refine frst_no fun m hm => ?_
        split at hm
        · cases hm
        · split at hm
          · rename_i h; rw [liM_F hm, ← h]; omega
          · rename_i h; rw [wrM_F hm, hF k (by omega) h]; omega
      rw [e, Option.or_none]
      by_cases d : s < k
      · rw [if_pos d, if_pos (show s < k + 1 by omega)]
      · rw [if_neg d, if_neg (show ¬ s < k + 1 by omega)]

/-- What is taken for said: H i s is what i has from s itself, T i j s what i has from j of s. -/
def tkH (H : Nat → Nat → Int) (T : Nat → Nat → Nat → Int) (i s : Nat) : Int := if s = i then H i s else dc3 (H i s) (T i (o1 i s) s) (T i (o2 i s) s)
theorem four {i : Nat} (h : i < 4) : i = 0 ∨ i = 1 ∨ i = 2 ∨ i = 3 := by omega
theorem dc3_ac (a c : Int) : dc3 a c a = a := by unfold dc3; split; rfl; rw [if_pos rfl]
theorem oth_cases {i s : Nat} (hi : i < 4) (hs : s < 4) (h : s ≠ i) : o1 i s < 4 ∧ o2 i s < 4 ∧ o1 i s ≠ i ∧ o1 i s ≠ s ∧ o2 i s ≠ i ∧ o2 i s ≠ s ∧ o1 i s ≠ o2 i s := by
  rcases four hi with rfl | rfl | rfl | rfl <;> rcases four hs with rfl | rfl | rfl | rfl <;> first | (exact absurd rfl h) | decide
section
variable {H : Nat → Nat → Int} {T : Nat → Nat → Nat → Int} {bad : Int}
theorem tkH_good (hT : ∀ i j s : Nat, i < 4 → j < 4 → s < 4 → (i : Int) ≠ bad → (j : Int) ≠ bad → j ≠ i → j ≠ s → s ≠ i → T i j s = H j s) {i s : Nat} {v : Int} (hi : i < 4) (hs : s < 4) (gi : (i : Int) ≠ bad) (hv : ∀ j : Nat, j < 4 → (j : Int) ≠ bad → H j s = v) : tkH H T i s = v := by
  unfold tkH
  by_cases e : s = i
  · rw [if_pos e]; exact hv i hi gi
  · rw [if_neg e, hv i hi gi]
    obtain ⟨a1, a2, a3, a4, a5, a6, a7⟩ := oth_cases hi hs e
    by_cases c : ((o1 i s : Nat) : Int) = bad
    · have c2 : ((o2 i s : Nat) : Int) ≠ bad := by omega
      rw [hT i (o2 i s) s hi a2 hs gi c2 a5 a6 e, hv _ a2 c2, dc3_ac]
    · rw [hT i (o1 i s) s hi a1 hs gi c a3 a4 e, hv _ a1 c, dc3_two]
theorem dc3_cab (a b c : Int) : dc3 a b c = dc3 c a b := by rw [dc3_bc, dc3_ab]
theorem dc3_bca (a b c : Int) : dc3 a b c = dc3 b c a := by rw [dc3_ab, dc3_bc]
theorem dc3_cba (a b c : Int) : dc3 a b c = dc3 c b a := by rw [dc3_bc, dc3_ab, dc3_bc]
theorem dc3_acb (a b c : Int) : dc3 a b c = dc3 a c b := dc3_bc a b c
theorem tkH_bad (hT : ∀ i j s : Nat, i < 4 → j < 4 → s < 4 → (i : Int) ≠ bad → (j : Int) ≠ bad → j ≠ i → j ≠ s → s ≠ i → T i j s = H j s) {i k s : Nat} (hi : i < 4) (hk : k < 4) (hs : s < 4) (gi : (i : Int) ≠ bad) (gk : (k : Int) ≠ bad) (hb : (s : Int) = bad) : tkH H T i s = tkH H T k s := by
  by_cases e0 : i = k
  · rw [e0]
  have ei : s ≠ i := by omega
  have ek : s ≠ k := by omega
  unfold tkH
  rw [if_neg ei, if_neg ek]
  obtain ⟨a1, a2, a3, a4, a5, a6, a7⟩ := oth_cases hi hs ei
  obtain ⟨b1, b2, b3, b4, b5, b6, b7⟩ := oth_cases hk hs ek
  rw [hT i _ s hi a1 hs gi (by omega) a3 a4 ei, hT i _ s hi a2 hs gi (by omega) a5 a6 ei, hT k _ s hk b1 hs gk (by omega) b3 b4 ek, hT k _ s hk b2 hs gk (by omega) b5 b6 ek]
  have h1 : o1 i s = k ∨ o2 i s = k := by omega
  have h2 : o1 k s = i ∨ o2 k s = i := by omega
  rcases h1 with h1 | h1 <;> rcases h2 with h2 | h2
  · have h3 : o2 i s = o2 k s := by omega
    rw [h1, h2, h3, dc3_ab]
  · have h3 : o2 i s = o1 k s := by omega
    rw [h1, h2, h3, dc3_bca]
  · have h3 : o1 i s = o2 k s := by omega
    rw [h1, h2, h3, dc3_cab]
  · have h3 : o1 i s = o1 k s := by omega
    rw [h1, h2, h3, dc3_cba]
theorem tkH_same (hT : ∀ i j s : Nat, i < 4 → j < 4 → s < 4 → (i : Int) ≠ bad → (j : Int) ≠ bad → j ≠ i → j ≠ s → s ≠ i → T i j s = H j s) (V : Nat → Int) (hV : ∀ j s : Nat, j < 4 → s < 4 → (j : Int) ≠ bad → (s : Int) ≠ bad → H j s = V s) {i k s : Nat} (hi : i < 4) (hk : k < 4) (hs : s < 4) (gi : (i : Int) ≠ bad) (gk : (k : Int) ≠ bad) : tkH H T i s = tkH H T k s := by
  by_cases hb : (s : Int) = bad
  · exact tkH_bad hT hi hk hs gi gk hb
  · rw [tkH_good hT hi hs gi (fun j hj g => hV j s hj hs g hb), tkH_good hT hk hs gk (fun j hj g => hV j s hj hs g hb)]
end

/-- A phase that is gone through in full: what the computers do with what was told. -/
theorem wrongM_ok {K F R : Int} {n : Nat} (h1 : 1 ≤ K ∧ K ≤ 5) (h2 : 0 ≤ F ∧ F ≤ 3) (h3 : 0 ≤ R ∧ R ≤ 2147483647) (h4 : n ≤ 24) : wrongM K F R n = 0 := by
  unfold wrongM; rw [if_neg (by omega), if_neg (by omega), if_neg (by omega)]
section
variable {x : Ip} {c : Cl}
/-- The computers behind k phases. -/
def ndK (x : Ip) (c : Cl) (k i : Nat) : Nd := (wkK x c k).nd i
def bxK (x : Ip) (c : Cl) (k i : Nat) : List Ms := (wkK x c k).bx i
def mgK (x : Ip) (c : Cl) (k i : Nat) : Ms := wkM x c.fr (wkK x c k) k i
theorem ndK_succ {k i : Nat} (h : (i : Int) ≠ x.bad) : ndK x c (k + 1) i = phN k (ndK x c k i) c.fr (x.rd i) (bxK x c k i) := by
  show (if (i : Int) = x.bad then _ else _) = _
  rw [if_neg h]; rfl
theorem mgK_at {k i : Nat} (h : (i : Int) ≠ x.bad) : mgK x c k i = phM k (ndK x c k i) c.fr (x.rd i) (bxK x c k i) := by
  show (if (i : Int) = x.bad then _ else _) = _
  rw [if_neg h]; rfl
theorem bxK_succ {k i : Nat} : bxK x c (k + 1) i = bxM x (mgK x c k) i k 4 := rfl
theorem nd1 {i : Nat} (h : (i : Int) ≠ x.bad) : ndK x c 1 i = senN (c.nd i) c.fr (x.rd i) := ndK_succ h
theorem nd2 {i : Nat} (h : (i : Int) ≠ x.bad) : ndK x c 2 i = relN (ndK x c 1 i) (bxK x c 1 i) := ndK_succ h
theorem nd3 {i : Nat} (h : (i : Int) ≠ x.bad) : ndK x c 3 i = decN (ndK x c 2 i) (bxK x c 2 i) := ndK_succ h
theorem nd4 {i : Nat} (h : (i : Int) ≠ x.bad) : ndK x c 4 i = pasN (ndK x c 3 i) (bxK x c 3 i) := ndK_succ h
theorem nd5 {i : Nat} (h : (i : Int) ≠ x.bad) : ndK x c 5 i = judN (ndK x c 4 i) (bxK x c 4 i) := ndK_succ h
theorem mg0 {i : Nat} (h : (i : Int) ≠ x.bad) : mgK x c 0 i = senM (c.nd i) c.fr (x.rd i) := mgK_at h
theorem mg1 {i : Nat} (h : (i : Int) ≠ x.bad) : mgK x c 1 i = relM (ndK x c 1 i) (bxK x c 1 i) := mgK_at h
theorem mg2 {i : Nat} (h : (i : Int) ≠ x.bad) : mgK x c 2 i = decM (ndK x c 2 i) (bxK x c 2 i) := mgK_at h
theorem mg3 {i : Nat} (h : (i : Int) ≠ x.bad) : mgK x c 3 i = pasM (ndK x c 3 i) (bxK x c 3 i) := mgK_at h
theorem mg4 {i : Nat} (h : (i : Int) ≠ x.bad) : mgK x c 4 i = judM (ndK x c 4 i) (bxK x c 4 i) := mgK_at h
theorem id0 (hE : frE x c = 0) {i : Nat} (hi : i < 4) : (c.nd i).id = (i : Nat) := (frE_ok hE).2.2.2 i hi
theorem sen_at (hE : frE x c = 0) {i : Nat} (hi : i < 4) (g : (i : Int) ≠ x.bad) : ndK x c 1 i = { c.nd i with fr := c.fr, di := fun s a => if (s : Int) = (c.nd i).id then x.rd i a else 0, he := fun _ => 0 } := by
  rw [nd1 g]; unfold senN; rw [if_neg (by rw [id0 hE hi, noN_at hi]; decide)]
theorem rel_atC (hE : frE x c = 0) {i : Nat} (hi : i < 4) (g : (i : Int) ≠ x.bad) : ndK x c 2 i = { ndK x c 1 i with di := relD (ndK x c 1 i) (bxK x c 1 i) } := by
  rw [nd2 g]; unfold relN; rw [if_neg (by rw [sen_at hE hi g]; show ¬ noN (c.nd i).id = true; rw [id0 hE hi, noN_at hi]; decide)]
theorem id1 (hE : frE x c = 0) {i : Nat} (hi : i < 4) (g : (i : Int) ≠ x.bad) : (ndK x c 1 i).id = (i : Nat) := by rw [sen_at hE hi g]; exact id0 hE hi
theorem id2 (hE : frE x c = 0) {i : Nat} (hi : i < 4) (g : (i : Int) ≠ x.bad) : (ndK x c 2 i).id = (i : Nat) := by rw [rel_atC hE hi g]; exact id1 hE hi g
theorem dec_at (hE : frE x c = 0) {i : Nat} (hi : i < 4) (g : (i : Int) ≠ x.bad) : ndK x c 3 i = { ndK x c 2 i with ag := decG (ndK x c 2 i) (bxK x c 2 i), us := decU (ndK x c 2 i) (bxK x c 2 i), ax := decA (ndK x c 2 i) (bxK x c 2 i), dg := decD (ndK x c 2 i) (bxK x c 2 i), he := fun s => if (s : Int) = (ndK x c 2 i).id then decD (ndK x c 2 i) (bxK x c 2 i) else (ndK x c 2 i).he s } := by
  rw [nd3 g]; unfold decN; rw [if_neg (by rw [id2 hE hi g, noN_at hi]; decide)]
theorem id3 (hE : frE x c = 0) {i : Nat} (hi : i < 4) (g : (i : Int) ≠ x.bad) : (ndK x c 3 i).id = (i : Nat) := by rw [dec_at hE hi g]; exact id2 hE hi g
theorem pas_at (hE : frE x c = 0) {i : Nat} (hi : i < 4) (g : (i : Int) ≠ x.bad) : ndK x c 4 i = { ndK x c 3 i with he := pasH (ndK x c 3 i) (bxK x c 3 i) } := by
  rw [nd4 g]; unfold pasN; rw [if_neg (by rw [id3 hE hi g, noN_at hi]; decide)]
theorem id4 (hE : frE x c = 0) {i : Nat} (hi : i < 4) (g : (i : Int) ≠ x.bad) : (ndK x c 4 i).id = (i : Nat) := by rw [pas_at hE hi g]; exact id3 hE hi g
theorem jud_at (hE : frE x c = 0) {i : Nat} (hi : i < 4) (g : (i : Int) ≠ x.bad) : ndK x c 5 i = { ndK x c 4 i with vX := judX (ndK x c 4 i) (bxK x c 4 i), vS := judS (ndK x c 4 i) (bxK x c 4 i), vA := (List.range 4).map (judA (ndK x c 4 i) (bxK x c 4 i)), rl := judR (ndK x c 4 i) (bxK x c 4 i) } := by
  rw [nd5 g]; unfold judN; rw [if_neg (by rw [id4 hE hi g, noN_at hi]; decide)]
theorem id5 (hE : frE x c = 0) {i : Nat} (hi : i < 4) (g : (i : Int) ≠ x.bad) : (ndK x c 5 i).id = (i : Nat) := by rw [jud_at hE hi g]; exact id4 hE hi g
theorem fr1 (hE : frE x c = 0) {i : Nat} (hi : i < 4) (g : (i : Int) ≠ x.bad) : (ndK x c 1 i).fr = c.fr := by rw [sen_at hE hi g]
theorem fr2 (hE : frE x c = 0) {i : Nat} (hi : i < 4) (g : (i : Int) ≠ x.bad) : (ndK x c 2 i).fr = c.fr := by rw [rel_atC hE hi g]; exact fr1 hE hi g
theorem fr3 (hE : frE x c = 0) {i : Nat} (hi : i < 4) (g : (i : Int) ≠ x.bad) : (ndK x c 3 i).fr = c.fr := by rw [dec_at hE hi g]; exact fr2 hE hi g
theorem fr4 (hE : frE x c = 0) {i : Nat} (hi : i < 4) (g : (i : Int) ≠ x.bad) : (ndK x c 4 i).fr = c.fr := by rw [pas_at hE hi g]; exact fr3 hE hi g
theorem fr5 (hE : frE x c = 0) {i : Nat} (hi : i < 4) (g : (i : Int) ≠ x.bad) : (ndK x c 5 i).fr = c.fr := by rw [jud_at hE hi g]; exact fr4 hE hi g
/-- The messages. -/
theorem ms0 (hE : frE x c = 0) {i : Nat} (hi : i < 4) (g : (i : Int) ≠ x.bad) : mgK x c 0 i = ⟨1, (i : Nat), c.fr, [x.rd i 0, x.rd i 1, x.rd i 2]⟩ := by
  rw [mg0 g]; unfold senM; rw [if_neg (by rw [id0 hE hi, noN_at hi]; decide), id0 hE hi]
theorem ms1 (hE : frE x c = 0) {i : Nat} (hi : i < 4) (g : (i : Int) ≠ x.bad) : mgK x c 1 i = ⟨2, (i : Nat), c.fr, (List.range 12).map fun k => (ndK x c 2 i).di (k / 3) (k % 3)⟩ := by
  rw [mg1 g, rel_atC hE hi g]; unfold relM; rw [if_neg (by rw [id1 hE hi g, noN_at hi]; decide), id1 hE hi g, fr1 hE hi g]
theorem ms2 (hE : frE x c = 0) {i : Nat} (hi : i < 4) (g : (i : Int) ≠ x.bad) : mgK x c 2 i = ⟨3, (i : Nat), c.fr, [(ndK x c 3 i).dg]⟩ := by
  rw [mg2 g, dec_at hE hi g]; unfold decM; rw [if_neg (by rw [id2 hE hi g, noN_at hi]; decide), id2 hE hi g, fr2 hE hi g]
theorem ms3 (hE : frE x c = 0) {i : Nat} (hi : i < 4) (g : (i : Int) ≠ x.bad) : mgK x c 3 i = ⟨2, (i : Nat), c.fr, (List.range 4).map (ndK x c 4 i).he⟩ := by
  rw [mg3 g, pas_at hE hi g]; unfold pasM; rw [if_neg (by rw [id3 hE hi g, noN_at hi]; decide), id3 hE hi g, fr3 hE hi g]
theorem ms4 (hE : frE x c = 0) {i : Nat} (hi : i < 4) (g : (i : Int) ≠ x.bad) : mgK x c 4 i = ⟨5, (i : Nat), c.fr, pck (ndK x c 5 i).ax (ndK x c 5 i).rl⟩ := by
  rw [mg4 g, jud_at hE hi g]; unfold judM; rw [if_neg (by rw [id4 hE hi g, noN_at hi]; decide), id4 hE hi g, fr4 hE hi g]
theorem fr_in (hE : frE x c = 0) : 0 ≤ c.fr ∧ c.fr ≤ 2147483647 := by have := (frE_ok hE).2.1; omega
/-- What is heard of a good one. -/
theorem hear0 (hE : frE x c = 0) {i s : Nat} (hi : i < 4) (hs : s < 4) (g : (i : Int) ≠ x.bad) (gs : (s : Int) ≠ x.bad) (h : s ≠ i) : frst (ndK x c 1 i) (bxK x c 1 i) s 1 3 = some [x.rd s 0, x.rd s 1, x.rd s 2] := by
  rw [bxK_succ, frst_bx (fun j hj gj => by rw [ms0 hE hj gj]) h 4 (Nat.le_refl _), if_pos hs, if_neg gs, ms0 hE hs gs]
  exact frst_wr rfl (by rw [id1 hE hi g]; omega) rfl (by rw [fr1 hE hi g]) rfl (wrongM_ok (show 1 ≤ (1 : Int) ∧ (1 : Int) ≤ 5 by decide) ⟨by show 0 ≤ ((s : Nat) : Int); omega, by show ((s : Nat) : Int) ≤ 3; omega⟩ (fr_in hE) (by show 3 ≤ 24; decide))
theorem hear1 (hE : frE x c = 0) {i s : Nat} (hi : i < 4) (hs : s < 4) (g : (i : Int) ≠ x.bad) (gs : (s : Int) ≠ x.bad) (h : s ≠ i) : frst (ndK x c 2 i) (bxK x c 2 i) s 2 12 = some ((List.range 12).map fun k => (ndK x c 2 s).di (k / 3) (k % 3)) := by
  rw [bxK_succ, frst_bx (fun j hj gj => by rw [ms1 hE hj gj]) h 4 (Nat.le_refl _), if_pos hs, if_neg gs, ms1 hE hs gs]
  exact frst_wr rfl (by rw [id2 hE hi g]; omega) rfl (by rw [fr2 hE hi g]) (by simp) (wrongM_ok (show 1 ≤ (2 : Int) ∧ (2 : Int) ≤ 5 by decide) ⟨by show 0 ≤ ((s : Nat) : Int); omega, by show ((s : Nat) : Int) ≤ 3; omega⟩ (fr_in hE) (by simp))
theorem hear2 (hE : frE x c = 0) {i s : Nat} (hi : i < 4) (hs : s < 4) (g : (i : Int) ≠ x.bad) (gs : (s : Int) ≠ x.bad) (h : s ≠ i) : frst (ndK x c 3 i) (bxK x c 3 i) s 3 1 = some [(ndK x c 3 s).dg] := by
  rw [bxK_succ, frst_bx (fun j hj gj => by rw [ms2 hE hj gj]) h 4 (Nat.le_refl _), if_pos hs, if_neg gs, ms2 hE hs gs]
  exact frst_wr rfl (by rw [id3 hE hi g]; omega) rfl (by rw [fr3 hE hi g]) rfl (wrongM_ok (show 1 ≤ (3 : Int) ∧ (3 : Int) ≤ 5 by decide) ⟨by show 0 ≤ ((s : Nat) : Int); omega, by show ((s : Nat) : Int) ≤ 3; omega⟩ (fr_in hE) (by show 1 ≤ 24; decide))
theorem hear3 (hE : frE x c = 0) {i s : Nat} (hi : i < 4) (hs : s < 4) (g : (i : Int) ≠ x.bad) (gs : (s : Int) ≠ x.bad) (h : s ≠ i) : frst (ndK x c 4 i) (bxK x c 4 i) s 2 4 = some ((List.range 4).map (ndK x c 4 s).he) := by
  rw [bxK_succ, frst_bx (fun j hj gj => by rw [ms3 hE hj gj]) h 4 (Nat.le_refl _), if_pos hs, if_neg gs, ms3 hE hs gs]
  exact frst_wr rfl (by rw [id4 hE hi g]; omega) rfl (by rw [fr4 hE hi g]) (by simp) (wrongM_ok (show 1 ≤ (2 : Int) ∧ (2 : Int) ≤ 5 by decide) ⟨by show 0 ≤ ((s : Nat) : Int); omega, by show ((s : Nat) : Int) ≤ 3; omega⟩ (fr_in hE) (by simp))
theorem hear4 (hE : frE x c = 0) {i s : Nat} (hi : i < 4) (hs : s < 4) (g : (i : Int) ≠ x.bad) (gs : (s : Int) ≠ x.bad) (h : s ≠ i) : frst (ndK x c 5 i) (bxK x c 5 i) s 5 24 = some (pck (ndK x c 5 s).ax (ndK x c 5 s).rl) := by
  rw [bxK_succ, frst_bx (fun j hj gj => by rw [ms4 hE hj gj]) h 4 (Nat.le_refl _), if_pos hs, if_neg gs, ms4 hE hs gs]
  exact frst_wr rfl (by rw [id5 hE hi g]; omega) rfl (by rw [fr5 hE hi g]) (pck_len _ _) (wrongM_ok (show 1 ≤ (5 : Int) ∧ (5 : Int) ≤ 5 by decide) ⟨by show 0 ≤ ((s : Nat) : Int); omega, by show ((s : Nat) : Int) ≤ 3; omega⟩ (fr_in hE) (by rw [pck_len]; decide))
/-- What good ones have from good ones. -/
theorem di_good (hE : frE x c = 0) {j s a : Nat} (hj : j < 4) (hs : s < 4) (gj : (j : Int) ≠ x.bad) (gs : (s : Int) ≠ x.bad) (ha : a < 3) : (ndK x c 2 j).di s a = x.rd s a := by
  rw [rel_atC hE hj gj]
  show relD (ndK x c 1 j) (bxK x c 1 j) s a = _
  unfold relD
  by_cases e : s = j
  · subst e
    rw [frst_own (by rw [id1 hE hj gj])]
    dsimp only
    rw [sen_at hE hj gj]
    show (if (s : Int) = (c.nd s).id then x.rd s a else 0) = _
    rw [if_pos (id0 hE hj).symm]
  · rw [hear0 hE hj hs gj gs e]
    dsimp only
    have : a = 0 ∨ a = 1 ∨ a = 2 := by omega
    rcases this with rfl | rfl | rfl <;> rfl
theorem he_good (hE : frE x c = 0) {j s : Nat} (hj : j < 4) (hs : s < 4) (gj : (j : Int) ≠ x.bad) (gs : (s : Int) ≠ x.bad) : (ndK x c 4 j).he s = (ndK x c 3 s).dg := by
  rw [pas_at hE hj gj]
  show pasH (ndK x c 3 j) (bxK x c 3 j) s = _
  unfold pasH
  by_cases e : s = j
  · subst e
    rw [frst_own (by rw [id3 hE hj gj])]
    dsimp only
    rw [dec_at hE hj gj]
    show (if (s : Int) = (ndK x c 2 s).id then decD (ndK x c 2 s) (bxK x c 2 s) else (ndK x c 2 s).he s) = _
    rw [if_pos (id2 hE hj gj).symm]
  · rw [hear2 hE hj hs gj gs e]
    rfl
/-- What is agreed. -/
def tdG (x : Ip) (c : Cl) (a i j s : Nat) : Int := tldN (ndK x c 2 i) (bxK x c 2 i) j (3 * s + a) 12
theorem ag_tk (hE : frE x c = 0) {i s a : Nat} (hi : i < 4) (g : (i : Int) ≠ x.bad) : (ndK x c 3 i).ag s a = tkH (fun i s => (ndK x c 2 i).di s a) (tdG x c a) i s := by
  rw [dec_at hE hi g]
  show tkn (ndK x c 2 i) (bxK x c 2 i) s ((ndK x c 2 i).di s a) (3 * s + a) 12 = _
  unfold tkn tkH tdG
  rw [id2 hE hi g]
  by_cases e : s = i
  · rw [if_pos e, if_pos (by rw [e])]
  · rw [if_neg e, if_neg (by omega)]; rfl
theorem tdG_good (hE : frE x c = 0) {a : Nat} (ha : a < 3) : ∀ i j s : Nat, i < 4 → j < 4 → s < 4 → (i : Int) ≠ x.bad → (j : Int) ≠ x.bad → j ≠ i → j ≠ s → s ≠ i → tdG x c a i j s = (ndK x c 2 j).di s a := fun i j s hi hj hs gi gj h1 _ _ => by
  unfold tdG tldN
  rw [hear1 hE hi hj gi gj h1]
  dsimp only
  rw [List.getD_eq_getElem?_getD, List.getElem?_map, List.getElem?_range (by omega)]
  show (ndK x c 2 j).di ((3 * s + a) / 3) ((3 * s + a) % 3) = _
  rw [show (3 * s + a) / 3 = s by omega, show (3 * s + a) % 3 = a by omega]
theorem ag_good (hE : frE x c = 0) {i s a : Nat} (hi : i < 4) (hs : s < 4) (gi : (i : Int) ≠ x.bad) (gs : (s : Int) ≠ x.bad) (ha : a < 3) : (ndK x c 3 i).ag s a = x.rd s a := by
  rw [ag_tk hE hi gi]
  exact tkH_good (tdG_good hE ha) hi hs gi (fun j hj gj => di_good hE hj hs gj gs ha)
theorem ag_same (hE : frE x c = 0) {i k s a : Nat} (hi : i < 4) (hk : k < 4) (hs : s < 4) (gi : (i : Int) ≠ x.bad) (gk : (k : Int) ≠ x.bad) (ha : a < 3) : (ndK x c 3 i).ag s a = (ndK x c 3 k).ag s a := by
  rw [ag_tk hE hi gi, ag_tk hE hk gk]
  exact tkH_same (tdG_good hE ha) (fun s => x.rd s a) (fun j s hj hs gj gs => di_good hE hj hs gj gs ha) hi hk hs gi gk
/-- The votes. -/
def vtK (x : Ip) (c : Cl) (i s : Nat) : Int := judV (ndK x c 4 i) (bxK x c 4 i) s
theorem vt_tk (hE : frE x c = 0) {i s : Nat} (hi : i < 4) (g : (i : Int) ≠ x.bad) : vtK x c i s = tkH (fun i s => (ndK x c 4 i).he s) (fun i j s => tldN (ndK x c 4 i) (bxK x c 4 i) j s 4) i s := by
  unfold vtK judV tkn tkH
  rw [id4 hE hi g]
  by_cases e : s = i
  · rw [if_pos e, if_pos (by rw [e])]
  · rw [if_neg e, if_neg (by omega)]; rfl
theorem td_good (hE : frE x c = 0) : ∀ i j s : Nat, i < 4 → j < 4 → s < 4 → (i : Int) ≠ x.bad → (j : Int) ≠ x.bad → j ≠ i → j ≠ s → s ≠ i → tldN (ndK x c 4 i) (bxK x c 4 i) j s 4 = (ndK x c 4 j).he s := fun i j s hi hj hs gi gj h1 _ _ => by
  unfold tldN
  rw [hear3 hE hi hj gi gj h1]
  dsimp only
  rw [List.getD_eq_getElem?_getD, List.getElem?_map, List.getElem?_range hs]
  rfl
theorem vt_good (hE : frE x c = 0) {i s : Nat} (hi : i < 4) (hs : s < 4) (gi : (i : Int) ≠ x.bad) (gs : (s : Int) ≠ x.bad) : vtK x c i s = (ndK x c 3 s).dg := by
  rw [vt_tk hE hi gi]
  exact tkH_good (td_good hE) hi hs gi (fun j hj gj => he_good hE hj hs gj gs)
theorem vt_same (hE : frE x c = 0) {i k s : Nat} (hi : i < 4) (hk : k < 4) (hs : s < 4) (gi : (i : Int) ≠ x.bad) (gk : (k : Int) ≠ x.bad) : vtK x c i s = vtK x c k s := by
  rw [vt_tk hE hi gi, vt_tk hE hk gk]
  exact tkH_same (td_good hE) (fun s => (ndK x c 3 s).dg) (fun j s hj hs gj gs => he_good hE hj hs gj gs) hi hk hs gi gk
end

end Go.Proofs.YthimcecbgpamdaaGreat

namespace Go.Proofs.YthimcecbgpamdaaGreat
open Go.RowKit

theorem R64_zero : R64 0 := ⟨by decide, by decide⟩
theorem gL_R {l : List Int} (h : ∀ x, x ∈ l → R64 x) (i : Nat) : R64 (gL l i) := by
  unfold gL
  rw [List.getD_eq_getElem?_getD]
  rcases Nat.lt_or_ge i l.length with c | c
  · rw [List.getElem?_eq_getElem c]
    exact h _ (List.getElem_mem c)
  · rw [List.getElem?_eq_none c]
    exact R64_zero
theorem dc3_R {a b c : Int} (ha : R64 a) (hb : R64 b) : R64 (dc3 a b c) := by
  unfold dc3
  split
  · exact ha
  · split
    · exact ha
    · split
      · exact hb
      · exact R64_zero
theorem frst_mem {n : Nd} {L : List Lm} {s : Nat} {kind : Int} {many : Nat} {v : List Int} (h : frst n (L.map Lm.m) s kind many = some v) : ∃ c, c ∈ L ∧ c.m.L = v := by
  rw [← fL_frst] at h
  obtain ⟨c, h1, h2⟩ := Option.map_eq_some_iff.1 h
  exact ⟨c, List.mem_of_find?_eq_some h1, h2⟩
theorem tld_R {n : Nd} {L : List Lm} (hRL : ∀ m, m ∈ L → ∀ i, R64 (gL m.m.L i)) (i k many : Nat) : R64 (tldN n (L.map Lm.m) i k many) := by
  unfold tldN
  cases e : frst n (L.map Lm.m) i 2 many with
  | none => exact R64_zero
  | some v =>
    obtain ⟨c, h1, rfl⟩ := frst_mem e
    exact hRL c h1 k
theorem tkn_R {n : Nd} {L : List Lm} (hRL : ∀ m, m ∈ L → ∀ i, R64 (gL m.m.L i)) {s : Nat} {h : Int} {k many : Nat} (hh : R64 h) : R64 (tkn n (L.map Lm.m) s h k many) := by
  unfold tkn
  split
  · exact hh
  · exact dc3_R hh (tld_R hRL _ _ _)
theorem enter_taken (x y z u v s : Value) (w : World) : (callFunc 45 #[x, y, z, u, v, s]).run Tryz.prog w = .ok (.enter 45 #[x, y, z, u, v, s]) w := by go_simp

end Go.Proofs.YthimcecbgpamdaaGreat

namespace Go.Proofs.YthimcecbgpamdaaGreat
open Go.RowKit

theorem ndF_ag (n : Nd) (v : Value) {i a : Nat} (hi : i < 4) (ha : a < 3) : ndF n v (0 + 55 + i * 3 + a * 1) = .int .i64 (n.ag i a) := by
  unfold ndF
  rw [if_neg (by omega), if_neg (by omega), if_neg (by omega), if_neg (by omega), if_neg (by omega), if_neg (by omega), if_pos (by omega), show (0 + 55 + i * 3 + a * 1 - 55) / 3 = i by omega, show (0 + 55 + i * 3 + a * 1 - 55) % 3 = a by omega]
  rfl
theorem ndF_us (n : Nd) (v : Value) {a : Nat} (ha : a < 3) : ndF n v (0 + 67 + a * 1) = .int .i64 (n.us a) := by
  unfold ndF
  rw [if_neg (by omega), if_neg (by omega), if_neg (by omega), if_neg (by omega), if_neg (by omega), if_neg (by omega), if_neg (by omega), if_pos (by omega), show 0 + 67 + a * 1 - 67 = a by omega]
  rfl
/-- A computer with these axes, these numbers agreed and used; behind so many axes and nodes. -/
def NA (n : Nd) (ag : Nat → Nat → Int) (us : Nat → Int) (ax : Nat → St) : Nd := { n with ag := ag, us := us, ax := ax }
def agP (n : Nd) (l : List Ms) (x i s k : Nat) : Int := if s < 4 ∧ (k < x ∨ (k = x ∧ s < i)) then decG n l s k else n.ag s k
def usP (n : Nd) (l : List Ms) (x k : Nat) : Int := if k < x then decU n l k else n.us k
def axP (n : Nd) (l : List Ms) (x k : Nat) : St := if k < x then decA n l k else n.ax k
theorem NA_zero {n : Nd} {l : List Ms} : NA n (agP n l 0 0) (usP n l 0) (axP n l 0) = n := by
  have e1 : agP n l 0 0 = n.ag := by funext s k; unfold agP; rw [if_neg (by omega)]
  have e2 : usP n l 0 = n.us := by funext k; unfold usP; rw [if_neg (by omega)]
  have e3 : axP n l 0 = n.ax := by funext k; unfold axP; rw [if_neg (by omega)]
  rw [e1, e2, e3]
  rfl
theorem tkn_NA {n : Nd} {ag : Nat → Nat → Int} {us : Nat → Int} {ax : Nat → St} {l : List Ms} {s : Nat} {h : Int} {k many : Nat} : tkn (NA n ag us ax) l s h k many = tkn n l s h k many := rfl
theorem ag_next {n : Nd} {l : List Ms} {x i : Nat} (hi : i < 4) : (fun s k => if s = i ∧ k = x then tkn n l i (n.di i x) (3 * i + x) 12 else agP n l x i s k) = agP n l x (i + 1) := by
  funext s k
  unfold agP
  by_cases c : s = i ∧ k = x
  · obtain ⟨rfl, rfl⟩ := c
    rw [if_pos ⟨rfl, rfl⟩, if_pos (by omega)]
    rfl
  · rw [if_neg c]
    by_cases c2 : s < 4 ∧ (k < x ∨ (k = x ∧ s < i))
    · rw [if_pos c2, if_pos (by omega)]
    · rw [if_neg c2, if_neg (by omega)]
theorem agP_at {n : Nd} {l : List Ms} {x i : Nat} (hi : i < 4) : agP n l x (i + 1) i x = decG n l i x := by
  unfold agP
  rw [if_pos (by omega)]
theorem ag_wrap {n : Nd} {l : List Ms} {x : Nat} : agP n l x 4 = agP n l (x + 1) 0 := by grind [agP]
theorem us_next {n : Nd} {l : List Ms} {x : Nat} : (fun k => if k = x then midL (insL n.rl.I (fun s => decG n l s x) 4) else usP n l x k) = usP n l (x + 1) := by
  funext k
  unfold usP
  by_cases c : k = x
  · subst c
    rw [if_pos rfl, if_pos (by omega)]
    rfl
  · rw [if_neg c]
    by_cases c2 : k < x
    · rw [if_pos c2, if_pos (by omega)]
    · rw [if_neg c2, if_neg (by omega)]
theorem usP_at {n : Nd} {l : List Ms} {x : Nat} : usP n l (x + 1) x = decU n l x := by
  unfold usP
  rw [if_pos (by omega)]
theorem axP_at {n : Nd} {l : List Ms} {x : Nat} : axP n l x x = n.ax x := by
  unfold axP
  rw [if_neg (by omega)]
theorem ax_next {n : Nd} {l : List Ms} {x : Nat} : (fun k => if k = x then decA n l x else axP n l x k) = axP n l (x + 1) := by grind [axP]
theorem NA_done {n : Nd} {l : List Ms} {v : Value} : ndF (NA n (agP n l 3 0) (usP n l 3) (axP n l 3)) v = ndF (NA n (decG n l) (decU n l) (decA n l)) v :=
  ndF_ext (n := n) (fun _ _ _ => rfl) (fun s k h1 h2 => by unfold agP; rw [if_pos (by omega)]) (fun k h => by unfold usP; rw [if_pos h]) (fun k h => by unfold axP; rw [if_pos h])
theorem dec_he {n : Nd} {I : Nat} {x : Int} (h : n.id = (I : Int)) : (fun s : Nat => if (s : Int) = n.id then x else n.he s) = fun s => if s = I then x else n.he s := by
  funext s
  rw [h]
  by_cases e : s = I
  · rw [if_pos (by omega), if_pos e]
  · rw [if_neg (by omega), if_neg e]
theorem ins_t {b : Nat → Bool} {f : Nat → Int} {i : Nat} (h : b i = true) : insL b f (i + 1) = insL b f i ++ [f i] := by
  show insL b f i ++ _ = _
  rw [h]; rfl
theorem ins_f {b : Nat → Bool} {f : Nat → Int} {i : Nat} (h : b i = false) : insL b f (i + 1) = insL b f i := by
  show insL b f i ++ _ = _
  rw [h]
  exact List.append_nil _
theorem ins_R {b : Nat → Bool} {f : Nat → Int} (h : ∀ s, R64 (f s)) (k i : Nat) : R64 (gL (insL b f k) i) := by
  refine gL_R ?_ i
  induction k with
  | zero => intro x hx; exact absurd hx (List.not_mem_nil)
  | succ k ih =>
    intro x hx
    rcases List.mem_append.1 hx with c | c
    · exact ih x c
    · split at c
      · rw [List.mem_singleton.1 c]; exact h k
      · exact absurd c (List.not_mem_nil)
theorem decG_R {n : Nd} {L : List Lm} (hok : NdOK n) (hRL : ∀ m, m ∈ L → ∀ i, R64 (gL m.m.L i)) (s a : Nat) : R64 (decG n (L.map Lm.m) s a) := tkn_R hRL (hok.di s a)
theorem srt_R {l : List Int} (h : ∀ x, x ∈ l → R64 x) (i : Nat) : R64 ((srt l).getD i 0) := by
  refine gL_R (l := srt l) (fun x hx => h x ?_) i
  unfold srt at hx
  exact (List.mem_mergeSort).1 hx
theorem midL_R {l : List Int} (h : ∀ x, x ∈ l → R64 x) : R64 (midL l) := by
  unfold midL
  split
  · have h1 := srt_R h ((l.length - 1) / 3)
    have h2 := srt_R h (l.length - 1 - (l.length - 1) / 3)
    unfold R64 at h1 h2 ⊢
    omega
  · exact R64_zero
theorem insL_mem {b : Nat → Bool} {f : Nat → Int} (h : ∀ s, R64 (f s)) (k : Nat) : ∀ x, x ∈ insL b f k → R64 x := by
  induction k with
  | zero => intro x hx; exact absurd hx (List.not_mem_nil)
  | succ k ih =>
    intro x hx
    rcases List.mem_append.1 hx with c | c
    · exact ih x c
    · split at c
      · rw [List.mem_singleton.1 c]; exact h k
      · exact absurd c (List.not_mem_nil)
theorem decU_R {n : Nd} {L : List Lm} (hok : NdOK n) (hRL : ∀ m, m ∈ L → ∀ i, R64 (gL m.m.L i)) (a : Nat) : R64 (decU n (L.map Lm.m) a) := midL_R (insL_mem (fun s => decG_R hok hRL s a) 4)
theorem lsN_gL (l : List Int) : lsN (gL l) l.length = l := by
  unfold lsN
  apply List.ext_getElem?
  intro i
  rcases Nat.lt_or_ge i l.length with c | c
  · rw [List.getElem?_map, List.getElem?_range c, List.getElem?_eq_getElem c]
    show some (gL l i) = _
    unfold gL
    rw [List.getD_eq_getElem?_getD, List.getElem?_eq_getElem c]
    rfl
  · rw [List.getElem?_eq_none c, List.getElem?_eq_none (by simpa using c)]

end Go.Proofs.YthimcecbgpamdaaGreat

namespace Go.Proofs.YthimcecbgpamdaaGreat
open Go.RowKit

/-- Messages whose numbers have 64 bits. -/
def MsR (l : List Ms) : Prop := ∀ m, m ∈ l → ∀ i, R64 (gL m.L i)
/-- A message that can be handed to Encode. -/
structure MsOK (m : Ms) : Prop where
  K : R64 m.K
  F : R64 m.F
  R : R64 m.R
  L : ∀ i, R64 (gL m.L i)
  n : m.L.length ≤ 24
theorem frst_R {n : Nd} {l : List Ms} {s : Nat} {kind : Int} {many : Nat} {v : List Int} (h : MsR l) (hv : frst n l s kind many = some v) (i : Nat) : R64 (v.getD i 0) := by
  unfold frst at hv
  obtain ⟨m, h1, rfl⟩ := Option.map_eq_some_iff.1 hv
  exact h m (List.mem_of_find?_eq_some h1) i
theorem tknR {n : Nd} {l : List Ms} (h : MsR l) {s : Nat} {v : Int} {k many : Nat} (hv : R64 v) : R64 (tkn n l s v k many) := by
  unfold tkn
  split
  · exact hv
  · refine dc3_R hv ?_
    unfold tldN
    split
    · rename_i u e; exact frst_R h e k
    · exact R64_zero
theorem R64_sum {x : Nat} (h : x ≤ 4294967295) : R64 ((x : Nat) : Int) := by unfold R64; omega
theorem dgN_R (ax : Nat → St) (r : Rl) : R64 (dgN ax r) := R64_sum (Nat.sub_le _ _)
theorem pck_mem {ax : Nat → St} {r : Rl} (h : ∀ a, (ax a).Ok) : ∀ x, x ∈ pck ax r → R64 x := by
  have h1 : ∀ a x, x ∈ axL (ax a) → R64 x := fun a x hx => by
    unfold axL at hx
    simp only [List.mem_cons, List.not_mem_nil, or_false] at hx
    rcases hx with rfl | rfl | rfl | rfl | rfl | rfl | rfl
    · exact (h a).X
    · exact (h a).V
    · exact (h a).P00
    · exact (h a).P01
    · exact (h a).P11
    · unfold R64; split <;> omega
    · exact (h a).M
  have h2 : ∀ (f : Nat → Int) k, R64 (ctN8 f (k + 1)) := fun f k => by
    show R64 (wrap64 _)
    unfold R64 wrap64; omega
  intro x hx
  unfold pck at hx
  simp only [List.mem_append, List.mem_cons, List.not_mem_nil, or_false] at hx
  rcases hx with ((hx | hx) | hx) | rfl | rfl | rfl
  · exact h1 0 x hx
  · exact h1 1 x hx
  · exact h1 2 x hx
  · unfold inN R64; split <;> split <;> split <;> split <;> omega
  · exact h2 _ 3
  · exact h2 _ 3
theorem zeroM_ok : MsOK zeroM := ⟨R64_zero, R64_zero, R64_zero, fun i => gL_R (fun x hx => by cases hx) i, Nat.zero_le _⟩
theorem nd_set {n m : Nd} (h : NdOK n) (h1 : R64 m.id) (h2 : R64 m.fr) (h3 : m.tn = n.tn) (h4 : ∀ a, (m.ax a).Ok) (h5 : ∀ i, R64 (m.rl.M i) ∧ R64 (m.rl.J i)) (h6 : ∀ s a, R64 (m.di s a)) (h7 : ∀ s, R64 (m.he s)) (h8 : ∀ s a, R64 (m.ag s a)) (h9 : ∀ a, R64 (m.us a)) (h10 : R64 m.dg) (h11 : R64 m.vX) (h12 : m.vA.length ≤ 140737488351232) : NdOK m :=
  ⟨h1, h2, by rw [h3]; exact h.tn, h4, fun i => (h5 i).1, fun i => (h5 i).2, h6, h7, h8, h9, h10, h11, h12⟩
section
variable {n : Nd} {l : List Ms}
theorem senN_ok (h : NdOK n) {fr : Int} {rd : Nat → Int} (hf : R64 fr) (hr : ∀ a, R64 (rd a)) : NdOK (senN n fr rd) := by
  unfold senN
  split
  · exact h
  · exact ⟨h.id, hf, h.tn, h.ax, h.rM, h.rJ, fun s a => by show R64 (if _ then _ else _); split; exact hr a; exact R64_zero, fun _ => R64_zero, h.ag, h.us, h.dg, h.vX, h.vA⟩
theorem senM_ok (h : NdOK n) {fr : Int} {rd : Nat → Int} (hf : R64 fr) (hr : ∀ a, R64 (rd a)) : MsOK (senM n fr rd) := by
  unfold senM
  split
  · exact ⟨R64_zero, R64_zero, R64_zero, fun i => gL_R (fun x hx => by cases hx) i, Nat.zero_le _⟩
  · refine ⟨(show R64 1 by unfold R64; decide), h.id, hf, fun i => gL_R (fun x hx => ?_) i, by show 3 ≤ 24; decide⟩
    simp only [List.mem_cons, List.not_mem_nil, or_false] at hx
    rcases hx with rfl | rfl | rfl <;> exact hr _
theorem relD_R (h : NdOK n) (hl : MsR l) (s a : Nat) : R64 (relD n l s a) := by
  unfold relD
  split
  · rename_i v e; exact frst_R hl e a
  · exact h.di s a
theorem relN_ok (h : NdOK n) (hl : MsR l) : NdOK (relN n l) := by
  unfold relN
  split
  · exact h
  · exact ⟨h.id, h.fr, h.tn, h.ax, h.rM, h.rJ, relD_R h hl, h.he, h.ag, h.us, h.dg, h.vX, h.vA⟩
theorem relM_ok (h : NdOK n) (hl : MsR l) : MsOK (relM n l) := by
  unfold relM
  split
  · exact zeroM_ok
  · refine ⟨(show R64 2 by unfold R64; decide), h.id, h.fr, fun i => gL_R (fun x hx => ?_) i, by simp⟩
    obtain ⟨q, _, rfl⟩ := List.mem_map.1 hx
    exact relD_R h hl _ _
theorem decG_ok (h : NdOK n) (hl : MsR l) (s a : Nat) : R64 (decG n l s a) := tknR hl (h.di s a)
theorem decU_ok (h : NdOK n) (hl : MsR l) (a : Nat) : R64 (decU n l a) := midL_R (insL_mem (fun s => decG_ok h hl s a) 4)
theorem decN_ok (h : NdOK n) (hl : MsR l) : NdOK (decN n l) := by
  unfold decN
  split
  · exact h
  · exact ⟨h.id, h.fr, h.tn, fun a => stepS_ok (h.ax a) _ _, h.rM, h.rJ, h.di, fun s => by show R64 (if _ then _ else _); split; exact dgN_R _ _; exact h.he s, decG_ok h hl, decU_ok h hl, dgN_R _ _, h.vX, h.vA⟩
theorem decM_ok (h : NdOK n) (_ : MsR l) : MsOK (decM n l) := by
  unfold decM
  split
  · exact zeroM_ok
  · refine ⟨(show R64 3 by unfold R64; decide), h.id, h.fr, fun i => gL_R (fun x hx => ?_) i, by show 1 ≤ 24; decide⟩
    simp only [List.mem_cons, List.not_mem_nil, or_false] at hx
    rw [hx]; exact dgN_R _ _
theorem pasH_R (h : NdOK n) (hl : MsR l) (s : Nat) : R64 (pasH n l s) := by
  unfold pasH
  split
  · rename_i v e; exact frst_R hl e 0
  · exact h.he s
theorem pasN_ok (h : NdOK n) (hl : MsR l) : NdOK (pasN n l) := by
  unfold pasN
  split
  · exact h
  · exact ⟨h.id, h.fr, h.tn, h.ax, h.rM, h.rJ, h.di, pasH_R h hl, h.ag, h.us, h.dg, h.vX, h.vA⟩
theorem pasM_ok (h : NdOK n) (hl : MsR l) : MsOK (pasM n l) := by
  unfold pasM
  split
  · exact zeroM_ok
  · refine ⟨(show R64 2 by unfold R64; decide), h.id, h.fr, fun i => gL_R (fun x hx => ?_) i, by simp⟩
    obtain ⟨q, _, rfl⟩ := List.mem_map.1 hx
    exact pasH_R h hl _
theorem judX_ok (h : NdOK n) (hl : MsR l) : R64 (judX n l) := by
  have hv : ∀ s, R64 (judV n l s) := fun s => tknR hl (h.he s)
  have : ∀ k, R64 (vtX (judV n l) n.rl.I k) := by
    intro k
    induction k with
    | zero => exact R64_zero
    | succ k ih =>
      show R64 (if _ then _ else _)
      split
      · exact hv k
      · exact ih
  exact this 4
theorem rn_R (h : NdOK n) {A : Nat → Bool} (hg : gdA n.rl = true) : ∀ k, k ≤ 4 → ∀ i, R64 ((rnN A n.rl k).1.M i) ∧ R64 ((rnN A n.rl k).1.J i) := fun k hk i => by
  rcases Nat.lt_or_ge i 4 with c | c
  · have g := gdA_iff.1 (rn_good (A := A) hg k) i c
    cases e : (rnN A n.rl k).1.I i with
    | true => have := (gd_in e).1 g; unfold R64; omega
    | false => have := (gd_out e).1 g; unfold R64; omega
  · obtain ⟨_, h2, h3⟩ := rn_rest (A := A) (r := n.rl) k (j := i) (by omega)
    rw [h2, h3]; exact ⟨h.rM i, h.rJ i⟩
theorem judR_R (h : NdOK n) (l : List Ms) (i : Nat) : R64 ((judR n l).M i) ∧ R64 ((judR n l).J i) := by
  unfold judR
  split
  · unfold stR
    split
    · exact ⟨R64_zero, R64_zero⟩
    · split
      · exact ⟨R64_zero, R64_zero⟩
      · rename_i hg
        split
        · exact rn_R h (by simpa using hg) 4 (Nat.le_refl _) i
        · exact ⟨h.rM i, h.rJ i⟩
  · exact ⟨h.rM i, h.rJ i⟩
theorem judN_ok (h : NdOK n) (hl : MsR l) : NdOK (judN n l) := by
  unfold judN
  split
  · exact h
  · exact ⟨h.id, h.fr, h.tn, h.ax, fun i => (judR_R h l i).1, fun i => (judR_R h l i).2, h.di, h.he, h.ag, h.us, h.dg, judX_ok h hl, by show ((List.range 4).map _).length ≤ _; rw [List.length_map, List.length_range]; decide⟩
theorem judM_ok (h : NdOK n) (_ : MsR l) : MsOK (judM n l) := by
  unfold judM
  split
  · exact zeroM_ok
  · exact ⟨(show R64 5 by unfold R64; decide), h.id, h.fr, fun i => gL_R (pck_mem h.ax) i, by rw [pck_len]; decide⟩
theorem cloN_ok (h : NdOK n) (hl : MsR l) : NdOK (cloN n l) := by
  unfold cloN
  split
  · exact h
  · split
    · rename_i v e
      split
      · have hv : ∀ i, R64 (v.getD i 0) := by
          unfold cloV at e
          split at e
          · obtain ⟨p, _, hp⟩ := List.exists_of_findSome?_eq_some e
            unfold pairN at hp
            split at hp
            · rename_i a b e1 e2
              split at hp
              · cases hp; exact frst_R hl e1
              · cases hp
            · cases hp
          · cases e
        have hm : ∀ (z : Int) (i : Nat), R64 (z / 8 ^ (3 - i) % 8) := fun z i => by unfold R64; omega
        exact ⟨h.id, h.fr, h.tn, fun a => ⟨hv _, hv _, hv _, hv _, hv _, hv _⟩, fun i => hm _ i, fun i => hm _ i, h.di, h.he, h.ag, h.us, h.dg, h.vX, h.vA⟩
      · exact h
    · exact h
end
theorem phN_ok {n : Nd} {l : List Ms} {fr : Int} {rd : Nat → Int} (k : Nat) (h : NdOK n) (hl : MsR l) (hf : R64 fr) (hr : ∀ a, R64 (rd a)) : NdOK (phN k n fr rd l) := by grind [phN, senN_ok, relN_ok, decN_ok, pasN_ok, judN_ok]
theorem phM_ok {n : Nd} {l : List Ms} {fr : Int} {rd : Nat → Int} (k : Nat) (h : NdOK n) (hl : MsR l) (hf : R64 fr) (hr : ∀ a, R64 (rd a)) : MsOK (phM k n fr rd l) := by grind [phM, senM_ok, relM_ok, decM_ok, pasM_ok, judM_ok]
/-- An input's numbers. -/
structure IpOK (x : Ip) : Prop where
  rd : ∀ s a, R64 (x.rd s a)
  bad : R64 x.bad
  g : ∀ y, y ∈ x.ly → ∀ i, y.g i < 256
def ClsOK (c : Cl) : Prop := R64 c.fr ∧ ∀ i, i < 4 → NdOK (c.nd i)
theorem dcM_ok {n : Nat} {g : Nat → Nat} (hg : ∀ i, g i < 256) : ∀ m, m ∈ dcM n g → MsOK m := fun m hm => by
  unfold dcM at hm
  split at hm
  · rename_i e
    obtain ⟨h1, h2, h3, h4, h5, h6, h7⟩ := dcE_right (dcB_iff.1 e)
    simp only [List.mem_cons, List.not_mem_nil, or_false] at hm
    subst hm
    have a1 := hg 1; have a2 := hg 2; have a3 := dR_lt hg
    refine ⟨?_, ?_, ?_, fun i => gL_R (fun x hx => ?_) i, ?_⟩
    · show R64 ((g 1 : Nat) : Int); unfold R64; omega
    · show R64 ((g 2 : Nat) : Int); unfold R64; omega
    · show R64 ((dR g : Nat) : Int); unfold R64; omega
    · obtain ⟨q, _, rfl⟩ := List.mem_map.1 hx
      exact dV_R64 hg q
    · show ((List.range (g 7)).map (dV g)).length ≤ 24
      rw [List.length_map, List.length_range]; exact h5
  · cases hm
theorem liM_ok {x : Ip} (h : IpOK x) {wo ph : Int} : ∀ m, m ∈ liM x.bad wo ph x.ly → MsOK m := fun m hm => by
  unfold liM at hm
  obtain ⟨y, hy, h2⟩ := List.mem_flatMap.1 hm
  split at h2
  · exact dcM_ok (h.g y hy) m (List.mem_filter.1 h2).1
  · cases h2
theorem bxM_ok {x : Ip} (h : IpOK x) {told : Nat → Ms} {wo ph : Nat} : ∀ k : Nat, (∀ j : Nat, j < k → (j : Int) ≠ x.bad → MsOK (told j)) → ∀ m, m ∈ bxM x told wo ph k → MsOK m
  | 0, _, m, hm => by cases hm
  | k + 1, ht, m, hm => by
    rcases List.mem_append.1 hm with c | c
    · exact bxM_ok h k (fun j hj g => ht j (by omega) g) m c
    · split at c
      · cases c
      · split at c
        · exact liM_ok h m c
        · rename_i g; rw [wrM_F c]; exact ht k (by omega) g
theorem MsOK.R' {l : List Ms} (h : ∀ m, m ∈ l → MsOK m) : MsR l := fun m hm => (h m hm).L
theorem wk_ok {x : Ip} {c : Cl} (hx : IpOK x) (hc : ClsOK c) : ∀ k, (∀ i, i < 4 → NdOK (ndK x c k i)) ∧ (∀ i, i < 4 → ∀ m, m ∈ bxK x c k i → MsOK m)
  | 0 => ⟨hc.2, fun i hi m hm => by cases hm⟩
  | k + 1 => by
    obtain ⟨h1, h2⟩ := wk_ok hx hc k
    refine ⟨fun i hi => ?_, fun i hi m hm => ?_⟩
    · by_cases g : (i : Int) = x.bad
      · show NdOK (if (i : Int) = x.bad then _ else _)
        rw [if_pos g]; exact h1 i hi
      · rw [ndK_succ g]
        exact phN_ok k (h1 i hi) (MsOK.R' (h2 i hi)) hc.1 (hx.rd i)
    · refine bxM_ok hx 4 (fun j hj g => ?_) m hm
      show MsOK (mgK x c k j)
      rw [mgK_at g]
      exact phM_ok k (h1 j hj) (MsOK.R' (h2 j hj)) hc.1 (hx.rd j)
theorem frN_ok {x : Ip} {c : Cl} (hx : IpOK x) (hc : ClsOK c) {i : Nat} (hi : i < 4) : NdOK (frN x c i) := by
  unfold frN
  split
  · exact hc.2 i hi
  · exact cloN_ok ((wk_ok hx hc 5).1 i hi) (MsOK.R' ((wk_ok hx hc 5).2 i hi))
theorem zeroN_ok : NdOK zeroN := ⟨R64_zero, R64_zero, ⟨R64_zero, R64_zero, R64_zero, R64_zero⟩, fun _ => ⟨R64_zero, R64_zero, R64_zero, R64_zero, R64_zero, R64_zero⟩, fun _ => R64_zero, fun _ => R64_zero, fun _ _ => R64_zero, fun _ => R64_zero, fun _ _ => R64_zero, fun _ => R64_zero, R64_zero, R64_zero, by show 0 ≤ _; decide⟩
theorem begN_okC {t : Tn} (h : t.Ok) {i : Nat} (hi : i < 4) : NdOK (begN (i : Nat) t) := by
  have e : R64 ((i : Nat) : Int) := by unfold R64; omega
  have b : St.beg0.Ok := ⟨R64_zero, R64_zero, by unfold R64; decide, R64_zero, by unfold R64; decide, R64_zero⟩
  unfold begN
  rw [if_neg (by rw [noN_at hi]; decide)]
  exact ⟨e, R64_zero, h, fun _ => b, fun _ => R64_zero, fun _ => R64_zero, fun _ _ => R64_zero, fun _ => R64_zero, fun _ _ => R64_zero, fun _ => R64_zero, R64_zero, R64_zero, by show 0 ≤ _; decide⟩
theorem begC_ok {t : Tn} (h : t.Ok) : ClsOK (begC t) := ⟨R64_zero, fun _ hi => begN_okC h hi⟩
theorem frC_ok {x : Ip} {c : Cl} (hx : IpOK x) (hc : ClsOK c) : ClsOK (frC x c) := by
  unfold frC
  split
  · rename_i e
    have := (frE_ok e).2.1
    refine ⟨?_, fun i hi => frN_ok hx hc hi⟩
    show R64 (c.fr + 1)
    unfold R64; omega
  · exact ⟨R64_zero, fun _ _ => zeroN_ok⟩

end Go.Proofs.YthimcecbgpamdaaGreat

namespace Go.Proofs.YthimcecbgpamdaaGreat
open Go.RowKit

theorem tells_wrong : wrongM 3 3 7 1 = 0 := by decide
/-- What Decode is held to, at bytes that a right message was encoded as. -/
theorem dc_at {fn : Nat} (hD : DcOK fn) {K F R : Int} {n : Nat} {f : Nat → Int} (h : wrongM K F R n = 0) (hf : ∀ i, R64 (f i)) (ao : Option Addr) (cap : Nat) (w : World) (hc : 12 + 8 * n ≤ cap) (hs : Sr w ao (12 + 8 * n) cap (bF (enS K F R n f))) :
    Calls Tryz.prog fn #[.slice ao (12 + 8 * n) cap] w fun e w' => ∃ (bo : Option Addr) (bc : Nat), e = .returned (.tuple #[msV K F R (.slice bo n bc), .int .i64 0]) ∧ w'.ownsRow w.heap.size 3 1 (.slice bo n bc) n (rowV (iF f) n) ∧ Below w.heap.size w w' := by
  have hn := (wrongM_right h).2.2.2.2.2.2
  refine (hD ao (12 + 8 * n) cap (enS K F R n f) w (enS_lt K F R n f) (by omega) hc hs).mono ?_
  rintro e w' ⟨E, v, hE, rfl, o, k⟩
  have e0 : E = 0 := dcE_one hE (enS_dc h)
  subst e0
  obtain ⟨e1, e2, eR, e7, eV⟩ := enS_back (f := f) h hf
  have d7 : dN 0 (enS K F R n f 7) = n := e7
  rw [d7, rowV_congr (f := iF f) (fun i hi => by unfold iF; rw [eV i hi])] at o
  obtain ⟨bo, bc, rfl⟩ := owns_slice o
  refine ⟨bo, bc, ?_, o, k⟩
  show Ending.returned (.tuple #[msV (enS K F R n f 1 : Nat) (enS K F R n f 2 : Nat) (dR (enS K F R n f) : Nat) (.slice bo n bc), .int .i64 0]) = _
  rw [e1, e2, eR]
/-- What Encode is held to, at a right message. -/
theorem en_at {fn : Nat} (hE : EnOK fn) {K F R : Int} {n : Nat} {f : Nat → Int} (h : wrongM K F R n = 0) (hf : ∀ i, R64 (f i)) (ao : Option Addr) (cap : Nat) (w : World) (hc : n ≤ cap) (hs : Sr w ao n cap (iF f)) :
    Calls Tryz.prog fn #[msV K F R (.slice ao n cap)] w fun e w' => ∃ (bo : Option Addr) (bc : Nat), e = .returned (.tuple #[.slice bo (12 + 8 * n) bc, .int .i64 0]) ∧ 12 + 8 * n ≤ bc ∧ Sr w' bo (12 + 8 * n) bc (bF (enS K F R n f)) ∧ w'.ownsRow w.heap.size 5 1 (.slice bo (12 + 8 * n) bc) (12 + 8 * n) (rowV (bF (enS K F R n f)) (12 + 8 * n)) ∧ Below w.heap.size w w' := by
  obtain ⟨h1, h2, h3, h4, h5, h6, h7⟩ := wrongM_right h
  refine (hE K F R ao n cap f w (by unfold R64; omega) (by unfold R64; omega) (by unfold R64; omega) hf (by omega) hc hs).mono ?_
  rintro e w' ⟨v, rfl, o, k⟩
  have eL : enL K F R n = 12 + 8 * n := by unfold enL; rw [if_pos h]
  rw [eL] at o
  obtain ⟨bo, bc, rfl, s, c⟩ := owns_sr o
  exact ⟨bo, bc, by rw [h], c, s, o, k⟩

end Go.Proofs.YthimcecbgpamdaaGreat

namespace Go.Proofs.YthimcecbgpamdaaGreat
open Go.RowKit

set_option maxHeartbeats 1000000 in
theorem refWrong_any (K F R : Int) (ao : Option Addr) (n cap : Nat) (w : World) :
    Calls Tryz.prog 76 #[msV K F R (.slice ao n cap)] w fun e w' => e = .returned (.int .i64 (wrongM K F R n)) ∧ Below w.heap.size w w' := by
  obtain ⟨w1, e1, m1, k1, _⟩ := mg_alloc w K F R (.slice ao n cap)
  have c0 := m1.cell0; have c1 := m1.cell1; have c2 := m1.cell2; have c3 := m1.cell3
  have E1 := hide e1; have K1 := hide k1
  clear e1 m1 k1
  unfold msV
  by_cases h1 : K < 1
  · have G := hide (show wrongM K F R n = 4 by unfold wrongM; rw [if_pos (Or.inl h1)])
    go_enter Tryz.func76, Tryz.ntmps76
    go_wp2_with fail
    rw [← unhide E1]
    go_wp2_with fail
    go_ret
    exact ⟨by rw [unhide G]; rfl, unhide K1⟩
  · by_cases h2 : 5 < K
    · have G := hide (show wrongM K F R n = 4 by unfold wrongM; rw [if_pos (Or.inr h2)])
      go_enter Tryz.func76, Tryz.ntmps76
      go_wp2_with fail
      rw [← unhide E1]
      go_wp2_with fail
      go_ret
      exact ⟨by rw [unhide G]; rfl, unhide K1⟩
    · by_cases h3 : F < 0
      · have G := hide (show wrongM K F R n = 3 by unfold wrongM; rw [if_neg (by omega), if_pos (by omega)])
        go_enter Tryz.func76, Tryz.ntmps76
        go_wp2_with fail
        rw [← unhide E1]
        go_wp2_with fail
        go_ret
        exact ⟨by rw [unhide G]; rfl, unhide K1⟩
      · by_cases h4 : 3 < F
        · have G := hide (show wrongM K F R n = 3 by unfold wrongM; rw [if_neg (by omega), if_pos (by omega)])
          go_enter Tryz.func76, Tryz.ntmps76
          go_wp2_with fail
          rw [← unhide E1]
          go_wp2_with fail
          go_ret
          exact ⟨by rw [unhide G]; rfl, unhide K1⟩
        · by_cases h5 : R < 0
          · have G := hide (show wrongM K F R n = 3 by unfold wrongM; rw [if_neg (by omega), if_pos (by omega)])
            go_enter Tryz.func76, Tryz.ntmps76
            go_wp2_with fail
            rw [← unhide E1]
            go_wp2_with fail
            go_ret
            exact ⟨by rw [unhide G]; rfl, unhide K1⟩
          · by_cases h6 : 2147483647 < R
            · have G := hide (show wrongM K F R n = 3 by unfold wrongM; rw [if_neg (by omega), if_pos (by omega)])
              go_enter Tryz.func76, Tryz.ntmps76
              go_wp2_with fail
              rw [← unhide E1]
              go_wp2_with fail
              go_ret
              exact ⟨by rw [unhide G]; rfl, unhide K1⟩
            · by_cases h7 : 24 < n
              · have G := hide (show wrongM K F R n = 6 by unfold wrongM; rw [if_neg (by omega), if_neg (by omega), if_pos h7])
                have h7' : (24 : Int) < (n : Int) := by omega
                go_enter Tryz.func76, Tryz.ntmps76
                go_wp2_with fail
                rw [← unhide E1]
                go_wp2_with fail
                go_ret
                exact ⟨by rw [unhide G]; rfl, unhide K1⟩
              · have G := hide (show wrongM K F R n = 0 by unfold wrongM; rw [if_neg (by omega), if_neg (by omega), if_neg h7])
                go_enter Tryz.func76, Tryz.ntmps76
                go_wp2_with fail
                rw [← unhide E1]
                go_wp2_with fail
                go_ret
                exact ⟨by rw [unhide G]; rfl, unhide K1⟩

/-- One byte ahead of a row. -/
theorem bt_row (v : Int) (k : Nat) : [Value.int .u8 (v / 256 ^ k % 256)] ++ rowV (bF (bt v k)) k = rowV (bF (bt v (k + 1))) (1 + k) := by
  have e : [Value.int .u8 (v / 256 ^ k % 256)] = rowV (fun _ => Value.int .u8 (v / 256 ^ k % 256)) 1 := rfl
  rw [e, rowV_append]
  refine rowV_congr (fun i hi => ?_)
  by_cases h : i < 1
  · rw [if_pos h]
    have : i = 0 := by omega
    subst this
    show _ = Value.int .u8 ((bt v (k + 1) 0 : Nat) : Int)
    rw [bt_head]
  · rw [if_neg h]
    obtain ⟨j, rfl⟩ : ∃ j, i = j + 1 := ⟨i - 1, by omega⟩
    show Value.int .u8 ((bt v k (j + 1 - 1) : Nat) : Int) = Value.int .u8 ((bt v (k + 1) (j + 1) : Nat) : Int)
    rw [bt_tail, Nat.add_sub_cancel]

set_option maxHeartbeats 1000000 in
theorem bytesOf_any (V : Int) (N : Nat) (w : World) (hv : R64 V) (hN : N ≤ 8) :
    Calls Tryz.prog 77 #[.int .i64 V, .int .i64 (N : Int)] w fun e w' => ∃ v, e = .returned v ∧ w'.ownsRow w.heap.size 5 1 v N (rowV (bF (bt V N)) N) ∧ Below w.heap.size w w' := by
  have HV := hide hv
  clear hv
  go_enter Tryz.func77, Tryz.ntmps77
  go_wp2_with fail
  go_loopw [0, 1, 5] (fun vs ns bs wr => ∃ (k c : Nat) (ao : Option Addr), k ≤ N ∧ vs = .int .i64 (V / 256 ^ k) ∧ ns = .int .i64 ((N - k : Nat) : Int) ∧ bs = .slice ao k c ∧ wr.ownsRow w.heap.size 5 1 (.slice ao k c) k (rowV (bF (bt V k)) k) ∧ Below w.heap.size w wr)
    (fun _ ns _ _ => (intOf ns).toNat)
  case atStart => exact ⟨0, 0, none, Nat.zero_le _, by rw [Int.pow_zero, Int.ediv_one], rfl, rfl, World.ownsRow_nil _ _ _ _, Below.refl _ _⟩
  case round =>
    obtain ⟨k, c, ao, hk, rfl, rfl, rfl, ho, hK⟩ := hrel
    rename World => wr
    obtain ⟨x, ex⟩ : ∃ x, V / 256 ^ k = x := ⟨_, rfl⟩
    have DX := hide (show x / 256 = V / 256 ^ (k + 1) by rw [← ex, div_next])
    have RX := hide (show R64 x by
      have h := unhide HV
      have hp := pow256_pos k
      unfold R64 at h ⊢
      have h1 : (1 : Int) ≤ 256 ^ k := hp
      subst ex
      refine ⟨?_, ?_⟩
      · exact Int.le_ediv_of_mul_le hp (by
          have : (-9223372036854775808 : Int) * 256 ^ k ≤ -9223372036854775808 * 1 := Int.mul_le_mul_of_nonpos_left (by decide) h1
          omega)
      · refine Int.le_trans ?_ (show (9223372036854775807 : Int) ≤ 9223372036854775807 from Int.le_refl _)
        rcases Int.lt_or_le V 0 with hn | hn
        · have := Int.ediv_neg_of_neg_of_pos hn hp
          omega
        · have := Int.ediv_le_self (256 ^ k) hn
          omega)
    have BR := hide (bt_row V k)
    rw [ex] at BR ⊢
    by_cases hin : k < N
    · have hs0 := (owns_sr ho)
      obtain ⟨a0, c0, e0, s0, _⟩ := hs0
      cases e0
      have S0 := hide (s0.below (al_below wr (.cells #[.int .u8 (x % 256)] 5)))
      have hv : Vh 5 (wr.alloc (.cells #[.int .u8 (x % 256)] 5)) wr.heap.size 1 1 (fun _ => .int .u8 (x % 256)) := Vh.new wr 5 #[.int .u8 (x % 256)] _ (by show 1 ≤ maxLen; decide) (fun i hi => by
        have : i = 0 := by simp at hi; omega
        subst this; rfl)
      have kB := hK.trans ((al_below wr (.cells #[.int .u8 (x % 256)] 5)).mono hK.size)
      have O1 := hide (hv.owns (base := w.heap.size) hK.size); have KB := hide kB; have ZB := hide kB.size
      clear ho hK s0 hv kB ex
      go_wp2_with (at_builtin; refine wpList_join _ rfl _ _ rfl w.heap.size (unhide ZB) (.slice (some ⟨wr.heap.size, 0, none⟩) 1 1) 1 (rowV (fun _ => .int .u8 (x % 256)) 1) rfl (unhide O1) ao k c (bF (bt V k)) rfl (unhide S0) (fun i _ => rfl) (by omega) ?_)
      intro v2 w2 h2 k2
      have h2' : w2.ownsRow w.heap.size 5 1 v2 (1 + k) (rowV (bF (bt V (k + 1))) (1 + k)) := by rw [← unhide BR]; exact h2
      rw [Nat.add_comm 1 k] at h2'
      obtain ⟨a2, c2, rfl⟩ := owns_slice h2'
      have H2 := hide h2'; have K2 := hide ((unhide KB).trans k2)
      clear h2 k2 h2'
      go_wp2_with fail
      go_roundw
      case rel => exact ⟨k + 1, c2, a2, by omega, by rw [← unhide DX], by go_num, rfl, unhide H2, unhide K2⟩
      case measure => simp [intOf] <;> omega
    · have : k = N := by omega
      subst this
      have HO := hide ho; have HK := hide hK
      clear ho hK ex
      go_wp2_with fail
      go_ret
      exact ⟨_, rfl, unhide HO, unhide HK⟩

end Go.Proofs.YthimcecbgpamdaaGreat

namespace Go.Proofs.YthimcecbgpamdaaGreat
open Go.RowKit

theorem i64_and1 (n : Int) : bits .and .i64 n 1 = n % 2 := by
  show IntKind.i64.wrap ((BitVec.ofInt 64 n &&& BitVec.ofInt 64 1).toNat : Int) = _
  have h1 : (BitVec.ofInt 64 1).toNat = 1 := by decide
  rw [BitVec.toNat_and, h1, Nat.and_two_pow_sub_one_eq_mod _ 1, BitVec.toNat_ofInt]
  rw [IntKind.wrap_i64]
  omega
theorem i64_xor_nat (a b : Nat) (ha : a < 9223372036854775808) (hb : b < 9223372036854775808) : bits .xor .i64 (a : Int) (b : Int) = ((a ^^^ b : Nat) : Int) := by
  show IntKind.i64.wrap ((BitVec.ofInt 64 (a : Int) ^^^ BitVec.ofInt 64 (b : Int)).toNat : Int) = _
  have h1 : (BitVec.ofInt 64 (a : Int)).toNat = a := by rw [BitVec.toNat_ofInt]; omega
  have h2 : (BitVec.ofInt 64 (b : Int)).toNat = b := by rw [BitVec.toNat_ofInt]; omega
  have h3 : a ^^^ b < 9223372036854775808 := Nat.xor_lt_two_pow (n := 63) ha hb
  rw [BitVec.toNat_xor, h1, h2, IntKind.wrap_i64]
  omega

/-- A bit. -/
def bT (x i : Nat) : Nat := x / 2 ^ i % 2
theorem bT_lt (x i : Nat) : bT x i < 2 := by unfold bT; omega
theorem bT_bit (x i : Nat) : bT x i = (x.testBit i).toNat := by grind [bT]
theorem bT_x (x y i : Nat) : bT (x ^^^ y) i = bT x i ^^^ bT y i := by
  rw [bT_bit, bT_bit, bT_bit, Nat.testBit_xor]
  cases x.testBit i <;> cases y.testBit i <;> rfl
theorem bT_half (x i : Nat) : bT (x / 2) i = bT x (i + 1) := by
  unfold bT
  rw [Nat.div_div_eq_div_mul, Nat.pow_succ, Nat.mul_comm 2]
theorem bT_high {x i : Nat} (h : x < 2 ^ i) : bT x i = 0 := by unfold bT; rw [Nat.div_eq_of_lt h]
/-- The register bit by bit, as values. -/
def rB (r : Nat) (i : Nat) : Value := .int .i64 (bT r i : Nat)

theorem pow_le_32 {k : Nat} (h : k ≤ 32) : 2 ^ k * 2 ^ (32 - k) = 4294967296 := by rw [← Nat.pow_add, show k + (32 - k) = 32 by omega]
/-- How the register begins. -/
theorem beg_bit (s : Int) {k : Nat} (hk : k < 32) : 1 - s / 2 ^ k % 2 = (bT (bgS s) k : Nat) := by
  obtain ⟨m, hm⟩ : ∃ m : Nat, (m : Int) = s % 4294967296 := ⟨(s % 4294967296).toNat, by omega⟩
  have hb : bgS s = 4294967295 - m := by unfold bgS; omega
  have hlt : m < 4294967296 := by omega
  have e1 : s / 2 ^ k % 2 = ((m / 2 ^ k % 2 : Nat) : Int) := by
    have e : s = (m : Int) + 2 ^ k * (2 * (2 ^ (31 - k) * (s / 4294967296))) := by
      have p : (2 : Int) ^ k * (2 * 2 ^ (31 - k)) = 4294967296 := by
        rw [← Int.pow_succ', ← Int.pow_add, show k + (31 - k + 1) = 32 by omega]; decide
      have : (2 : Int) ^ k * (2 * (2 ^ (31 - k) * (s / 4294967296))) = 4294967296 * (s / 4294967296) := by rw [← p]; simp only [Int.mul_assoc]
      rw [this, hm]; omega
    have pk : (2 : Int) ^ k ≠ 0 := by have : (0 : Int) < 2 ^ k := Int.pow_pos (by omega); omega
    rw [e, Int.add_mul_ediv_left _ _ pk, Int.add_mul_emod_self_left]
    simp
  have e2 : bT (4294967295 - m) k = 1 - m / 2 ^ k % 2 := by
    have := bT_x 4294967295 m k
    rw [not32 m hlt] at this
    rw [this]
    have h1 : bT 4294967295 k = 1 := by
      rw [bT_bit, show 4294967295 = 2 ^ 32 - 1 by decide, Nat.testBit_two_pow_sub_one]; simp [hk]
    rw [h1]
    show 1 ^^^ bT m k = 1 - bT m k
    have := bT_lt m k
    rcases (show bT m k = 0 ∨ bT m k = 1 by omega) with h | h <;> rw [h] <;> rfl
  rw [e1, hb, e2]
  omega

/-- The register over the first k bits of a byte. -/
def cB (r c : Nat) : Nat → Nat
  | 0 => r
  | k + 1 => cS (cB r c k ^^^ bT c k)
theorem cB_lt {r : Nat} (hr : r < 4294967296) (c k : Nat) : cB r c k < 4294967296 := by
  induction k with
  | zero => exact hr
  | succ k ih => exact cS_lt (Nat.xor_lt_two_pow (n := 32) ih (by have := bT_lt c k; omega))
theorem cB_N (r c k : Nat) : cB r c k ^^^ c / 2 ^ k = cN k (r ^^^ c) := by
  induction k with
  | zero => show r ^^^ c / 1 = r ^^^ c; rw [Nat.div_one]
  | succ k ih =>
    rw [cN_succ, ← ih]
    have e : c / 2 ^ k = bT c k ^^^ (c / 2 ^ (k + 1)) * 2 ^ 1 := by
      have h := low_x (x := bT c k) 1 (bT_lt c k) (c / 2 ^ (k + 1))
      rw [← h, Nat.pow_succ, ← Nat.div_div_eq_div_mul]
      unfold bT; omega
    rw [e, ← Nat.xor_assoc, cS_x]
    have h2 : cS (c / 2 ^ (k + 1) * 2 ^ 1) = c / 2 ^ (k + 1) := cN_up 1 (c / 2 ^ (k + 1))
    rw [h2]
    rfl
theorem cB_8 (r c : Nat) (hc : c < 256) : cB r c 8 = cN 8 (r ^^^ c) := by
  rw [← cB_N, Nat.div_eq_of_lt (show c < 2 ^ 8 by omega), Nat.xor_zero]
/-- One step, the bit that goes out being known. -/
theorem cS_out (r b : Nat) (hb : b < 2) (h : (bT r 0 ^^^ b) = 0) : cS (r ^^^ b) = r / 2 := by
  have e : (r ^^^ b) % 2 = 0 := by
    have := bT_x r b 0
    rw [show bT b 0 = b by unfold bT; omega, h] at this
    unfold bT at this; omega
  unfold cS
  rw [if_pos e, x_div2, Nat.div_eq_of_lt hb, Nat.xor_zero]
theorem cS_in (r b : Nat) (hb : b < 2) (h : (bT r 0 ^^^ b) = 1) : cS (r ^^^ b) = r / 2 ^^^ 3988292384 := by
  have e : (r ^^^ b) % 2 = 1 := by
    have := bT_x r b 0
    rw [show bT b 0 = b by unfold bT; omega, h] at this
    unfold bT at this; omega
  unfold cS
  rw [if_neg (by omega), x_div2, Nat.div_eq_of_lt hb, Nat.xor_zero]
/-- The number out of its bits, the highest ones first. -/
theorem bits_up (r m : Nat) (hm : m < 32) : 2 * (2 ^ m - 1 - r / 2 ^ (32 - m)) + 1 - bT r (31 - m) = 2 ^ (m + 1) - 1 - r / 2 ^ (31 - m) ∨ ¬ r < 4294967296 := by
  by_cases hr : r < 4294967296
  · left
    have e : r / 2 ^ (32 - m) = r / 2 ^ (31 - m) / 2 := by rw [show 32 - m = (31 - m) + 1 by omega, Nat.pow_succ, Nat.div_div_eq_div_mul]
    have hlt : r / 2 ^ (31 - m) < 2 ^ (m + 1) := by
      apply Nat.div_lt_of_lt_mul
      rw [← Nat.pow_add, show 31 - m + (m + 1) = 32 by omega]; exact hr
    rw [e]
    unfold bT
    rw [Nat.pow_succ] at hlt ⊢
    omega
  · right; exact hr

end Go.Proofs.YthimcecbgpamdaaGreat

namespace Go.Proofs.YthimcecbgpamdaaGreat
open Go.RowKit

/-- The register at the loop's place k while it is filled. -/
def filF (s : Int) (k j : Nat) : Value := if j < k then rB (bgS s) j else .int .i64 0
theorem filF_step (s : Int) (k : Nat) : stW (filF s k) k (rB (bgS s) k) = filF s (k + 1) := by grind [filF, stW_same, stW_other]
def nil32 : Array Value := Array.replicate 32 (.int .i64 0)
/-- While the register is combined. -/
def mixF (r k j : Nat) : Value := if j < k then rB (r ^^^ 3988292384) j else rB r j
theorem mixF_step (r k : Nat) : stW (mixF r k) k (rB (r ^^^ 3988292384) k) = mixF r (k + 1) := by grind [mixF, stW_same, stW_other]

theorem infoI : (Tryz.prog.info? 3).map (·.size) = some 1 := by kernel_rfl
/-- The register moved down by one. -/
def dwF (x i : Nat) : Value := if i < 31 then rB x (i + 1) else rB x i
theorem wp_down (w : World) {o : Oper} {a : Act} {K : Act → World → Prop} {Q : Exit → Act → World → Prop} (d s : Operand)
    (ho : o.op = .call { callee := .builtin .copy, args := #[d, s], argTypes := #[65, 65] }) (b x : Nat)
    (hd : a.eval d = .slice (some ⟨b, 0, none⟩) 32 32) (hs : a.eval s = .slice (some ⟨b, 1, none⟩) 31 31) (hv : Vh 204 w b 32 32 (rB x))
    (h : ∀ w', Vh 204 w' b 32 32 (dwF x) → Kept b w w' → K (a.put o.dst (goInt 31)) w') : o.wp Tryz.prog a w K Q := by
  have hrow := hv.whole
  have hrun := run_copy_row (P := Tryz.prog) w 65 65 o.type 3 b 0 32 32 ⟨b, 1, none⟩ 31 31 _ 204 (rowV (fun i => rB x (i + 1)) 31) Tryz.underlying65 infoI hrow (by rw [rowV_length]; decide)
    (fun j u hj => by
      rw [Addr.add_lit]
      rcases Nat.lt_or_ge j 31 with h2 | h2
      · rw [rowV_at _ h2] at hj; cases hj
        rw [Nat.add_comm 1 j]; exact hv.cell (by omega)
      · rw [rowV_none _ h2] at hj; cases hj) (by rw [rowV_length]; simp) (rowV_one _ _ (fun _ _ => rfl))
  rw [rowV_length] at hrun
  have e : ((rowV (rB x) 32).take 0 ++ rowV (fun i => rB x (i + 1)) 31 ++ (rowV (rB x) 32).drop (0 + 31)) = rowV (dwF x) 32 := by
    apply List.ext_getElem?
    intro i
    rw [List.take_zero, List.nil_append]
    rcases Nat.lt_or_ge i 31 with h2 | h2
    · rw [List.getElem?_append_left (by rw [rowV_length]; exact h2), rowV_at _ h2, rowV_at _ (by omega)]; unfold dwF; rw [if_pos h2]
    · rw [List.getElem?_append_right (by rw [rowV_length]; exact h2), rowV_length, List.getElem?_drop]
      rcases Nat.lt_or_ge i 32 with h3 | h3
      · obtain rfl : i = 31 := by omega
        rw [rowV_at _ (by omega), rowV_at _ (by omega)]; rfl
      · rw [rowV_none _ (by omega), rowV_none _ h3]
  have e2 : (((List.range 32).map (rB x)).toArray.toList.take 0 ++ rowV (fun i => rB x (i + 1)) 31 ++ ((List.range 32).map (rB x)).toArray.toList.drop (0 + 31)) = rowV (dwF x) 32 := e
  rw [e2] at hrun
  have hh := h _ (Vh.of_row (dwF x) 32 (by unfold maxLen; omega) (setRow_heap w b _ (rowV (dwF x) 32).toArray 204 (0, 0) hrow)) ⟨rfl, rfl, rfl, by simp, fun k _ hn => setRow_other w b k _ hn⟩
  unfold Oper.wp execOp
  simp only [ho, resolve, invoke, builtin, Sem.run_bind, Sem.run_pure, Result.andThen_ok, List.map_toArray, List.map_cons, List.map_nil, hd, hs, hrun]
  exact hh
theorem dn_set {w : World} {b x : Nat} (hx : x < 4294967296) (h : Vh 204 w b 32 32 (dwF x)) : Vh 204 (w.setCell ⟨b, 31, none⟩ (.int .i64 0)) b 32 32 (rB (x / 2)) := by
  refine (h.set 31 (.int .i64 0)).congr (fun i hi => ?_)
  by_cases e : i = 31
  · subst e; rw [stW_same]; unfold rB; rw [bT_half, bT_high (by omega)]; rfl
  · rw [stW_other _ _ e]; unfold dwF; rw [if_pos (by omega)]; unfold rB; rw [bT_half]

set_option maxRecDepth 100000 in
set_option maxHeartbeats 2000000 in
theorem refMore_any (s : Int) (hs : R64 s) (ao : Option Addr) (len cap : Nat) (g : Nat → Nat) (w : World) (hg : ∀ i, g i < 256) (hl : len ≤ 9223372036854775807) (hr : Rd w ao len (bF g)) :
    Calls Tryz.prog 119 #[.int .i64 s, .slice ao len cap] w fun e w' => e = .returned (.int .i64 (moreN s g len : Nat)) ∧ Below w.heap.size w w' := by
  have HR := hide hr; have HG := hide hg
  obtain ⟨s1, s2⟩ := hs
  clear hr hg
  go_enter Tryz.func119, Tryz.ntmps119
  go_wp2_with fail
  have hV : Vh 204 (w.alloc (.cells nil32 204)) w.heap.size 32 32 (filF s 0) :=
    ⟨nil32, heap_alloc_new _ _, by simp [nil32], Nat.le_refl _, by unfold maxLen; omega, fun i hi => by simp [nil32, filF, hi]⟩
  have hB := al_below w (.cells nil32 204)
  unfold nil32 at hV hB
  simp only [Array.replicate, List.replicate] at hV hB
  have H0 := hide hV; have B0 := hide hB
  clear hV hB
  go_loopw [15] (fun is wr => ∃ i : Nat, is = .int .i64 i ∧ i ≤ 32 ∧ Vh 204 wr w.heap.size 32 32 (filF s i) ∧ Below w.heap.size w wr) (fun is _ => 32 - (intOf is).toNat)
  case atStart => exact ⟨0, rfl, Nat.zero_le _, unhide H0, unhide B0⟩
  case round =>
    obtain ⟨i, rfl, hi, hV, hK⟩ := hrel
    have V := hide hV; have KK := hide hK
    clear hV hK H0 B0
    by_cases hin : i < 32
    · have hin2 : (i : Int) < 32 := by omega
      have f1 := (unhide V).free i
      have l1 : (_ : World).cell? ⟨w.heap.size, i, none⟩ = some (filF s i i) := (unhide V).cell hin
      go_wp2_with fail
      go_roundw
      case rel =>
        have e1 : wrap64 (1 - bits .and .i64 (s / 2 ^ i) 1) = (bT (bgS s) i : Nat) := by
          rw [i64_and1, beg_bit s hin]
          have := bT_lt (bgS s) i
          unfold wrap64; omega
        rw [e1]
        exact ⟨i + 1, by go_num, by omega, by rw [← filF_step s i]; exact (unhide V).set i _, below_of_kept (unhide KK) (kept_set _ _ _ _) (by omega) (unhide KK).size⟩
      case measure => simp [intOf]; omega
    · have e6 : i = 32 := by omega
      subst e6
      have V0 := hide (show Vh 204 _ w.heap.size 32 32 (rB (cF (bgS s) g 0)) from (unhide V).congr (fun i hi => by unfold filF; rw [if_pos hi]; rfl))
      clear V
      go_wp2_with fail
      rw [show ((32 : Nat) : Int) = 32 from rfl]
      go_loopw [29] (fun is wr => ∃ i : Nat, is = .int .i64 i ∧ i ≤ len ∧ Vh 204 wr w.heap.size 32 32 (rB (cF (bgS s) g i)) ∧ Below w.heap.size w wr) (fun is _ => len - (intOf is).toNat)
      case atStart => exact ⟨0, rfl, Nat.zero_le _, unhide V0, unhide KK⟩
      case round =>
        obtain ⟨i, rfl, hi, hV, hK⟩ := hrel
        have V := hide hV; have K2 := hide hK
        clear hV hK V0 KK
        have hlt : cF (bgS s) g i < 4294967296 := cF_lt (bgS_lt s) (unhide HG) i
        obtain ⟨r, er⟩ : ∃ r, r = cF (bgS s) g i := ⟨_, rfl⟩
        rw [← er] at hlt V
        have ER := hide er; have HL := hide hlt
        clear er hlt
        by_cases hin : i < len
        · obtain ⟨b, o, rfl, hcs⟩ := (unhide HR).below (unhide K2) (by omega)
          have hc : (_ : World).cell? ⟨b, o + i, none⟩ = some (.int .u8 (g i : Nat)) := hcs i hin
          clear hcs
          have hb := unhide HG i
          obtain ⟨c, ec⟩ : ∃ c, c = g i := ⟨_, rfl⟩
          rw [← ec] at hc hb
          have EC := hide ec
          clear ec
          go_wp2_with fail
          clear hc
          go_loopw [10] (fun ks wr => ∃ k : Nat, ks = .int .i64 k ∧ k ≤ 8 ∧ Vh 204 wr w.heap.size 32 32 (rB (cB r c k)) ∧ Below w.heap.size w wr) (fun ks _ => 8 - (intOf ks).toNat)
          case atStart => exact ⟨0, rfl, Nat.zero_le _, unhide V, unhide K2⟩
          case round =>
            obtain ⟨k, rfl, hk, hV, hK⟩ := hrel
            have V := hide hV; have K3 := hide hK
            clear hV hK K2
            have hlt : cB r c k < 4294967296 := cB_lt (unhide HL) c k
            obtain ⟨x, ex⟩ : ∃ x, x = cB r c k := ⟨_, rfl⟩
            rw [← ex] at hlt V
            have EX := hide ex; have XL := hide hlt
            clear ex hlt
            by_cases hk8 : k < 8
            · have hk2 : (k : Int) < 8 := by omega
              have l0 : (_ : World).cell? ⟨w.heap.size, 0, none⟩ = some (.int .i64 (bT x 0 : Nat)) := (unhide V).cell (by omega)
              have a1 : bits .and .i64 ((c : Int) / 2 ^ k) 1 = ((bT c k : Nat) : Int) := by rw [i64_and1]; unfold bT; simp
              have b1 := bT_lt x 0; have b2 := bT_lt c k
              have a2 := i64_xor_nat (bT x 0) (bT c k) (by omega) (by omega)
              have d2 : bT x 0 ^^^ bT c k = 0 ∨ bT x 0 ^^^ bT c k = 1 := by
                have := Nat.xor_lt_two_pow (n := 1) (x := bT x 0) (y := bT c k) b1 b2; omega
              rcases d2 with d | d
              · have D := hide d
                rw [d] at a2
                clear d b1 b2
                go_wp2_with fail
                clear a1 a2 l0
                refine region_by (S := fun _ => True) [(0, false), (1, false), (2, true)] [] (by kernel_rfl) (by kernel_rfl) ?_
                iterate 2
                  refine seq_read (v := ?_) rfl (fun _ _ _ h => h) (by rfl) trivial ?_ ?_
                  rotate_left 1
                  · intro wx hwx
                    go_simp <;> exact rfl
                  go_frame
                refine seq_do rfl (fun K hK => ?_)
                rw [if_pos (by rfl)]
                refine wp_down _ (.tmp 46) (.tmp 47) rfl w.heap.size x (by rfl) (by rfl) ((unhide V).same rfl) ?_
                intro w3 h3 k3
                refine hK _ _ (fun _ => trivial) ?_
                clear hK K
                refine seq_end ?_
                have l3 : w3.cell? ⟨w.heap.size, 31, none⟩ = some (dwF x 31) := h3.cell (by omega)
                have f3 := h3.free 31
                have h4 := dn_set (unhide XL) h3
                have k4 := below_of_kept (below_of_kept (below_drew (unhide K3)) k3 (Nat.le_refl _) (unhide K3).size) (kept_set w3 w.heap.size 31 (.int .i64 0)) (Nat.le_refl _) (Nat.le_trans (unhide K3).size k3.size)
                have H4 := hide h4; have K4 := hide k4
                clear h3 k3 h4 k4
                go_wp2_with fail
                go_roundw
                case rel => exact ⟨k + 1, by go_num, by omega, by rw [show cB r c (k + 1) = cS (cB r c k ^^^ bT c k) from rfl, ← unhide EX, cS_out _ _ (bT_lt c k) (unhide D)]; exact unhide H4, unhide K4⟩
                case measure => simp [intOf]; omega
              · have D := hide d
                rw [d] at a2
                clear d b1 b2
                go_wp2_with fail
                clear a1 a2 l0
                refine region_by (S := fun _ => True) [(0, false), (1, false), (2, true)] [] (by kernel_rfl) (by kernel_rfl) ?_
                iterate 2
                  refine seq_read (v := ?_) rfl (fun _ _ _ h => h) (by rfl) trivial ?_ ?_
                  rotate_left 1
                  · intro wx hwx
                    go_simp <;> exact rfl
                  go_frame
                refine seq_do rfl (fun K hK => ?_)
                rw [if_pos (by rfl)]
                refine wp_down _ (.tmp 46) (.tmp 47) rfl w.heap.size x (by rfl) (by rfl) ((unhide V).same rfl) ?_
                intro w3 h3 k3
                refine hK _ _ (fun _ => trivial) ?_
                clear hK K
                refine seq_end ?_
                have l3 : w3.cell? ⟨w.heap.size, 31, none⟩ = some (dwF x 31) := h3.cell (by omega)
                have f3 := h3.free 31
                have h4 := dn_set (unhide XL) h3
                have k4 := below_of_kept (below_of_kept (below_drew (unhide K3)) k3 (Nat.le_refl _) (unhide K3).size) (kept_set w3 w.heap.size 31 (.int .i64 0)) (Nat.le_refl _) (Nat.le_trans (unhide K3).size k3.size)
                have H4 := hide h4; have K4 := hide k4
                clear h3 k3 h4 k4
                go_wp2_with fail
                go_loopw [52] (fun js wr => ∃ j : Nat, js = .int .i64 j ∧ j ≤ 32 ∧ Vh 204 wr w.heap.size 32 32 (mixF (x / 2) j) ∧ Below w.heap.size w wr) (fun js _ => 32 - (intOf js).toNat)
                case atStart => exact ⟨0, rfl, Nat.zero_le _, (unhide H4).congr (fun i hi => by unfold mixF; rw [if_neg (by omega)]), unhide K4⟩
                case round =>
                  obtain ⟨j, rfl, hj, hV, hK⟩ := hrel
                  have V5 := hide hV; have K5 := hide hK
                  clear hV hK K4 H4
                  by_cases hj8 : j < 32
                  · have hj2 : (j : Int) < 32 := by omega
                    have l5 : (_ : World).cell? ⟨w.heap.size, j, none⟩ = some (.int .i64 (bT (x / 2) j : Nat)) := ((unhide V5).cell hj8).trans (by unfold mixF; rw [if_neg (by omega)]; rfl)
                    have f5 := (unhide V5).free j
                    have a1 : bits .and .i64 ((3988292384 : Int) / 2 ^ j) 1 = ((bT 3988292384 j : Nat) : Int) := by rw [i64_and1]; unfold bT; simp
                    have b1 := bT_lt (x / 2) j; have b2 := bT_lt 3988292384 j
                    have a2 := i64_xor_nat (bT (x / 2) j) (bT 3988292384 j) (by omega) (by omega)
                    rw [← bT_x] at a2
                    go_wp2_with fail
                    go_roundw
                    case rel => exact ⟨j + 1, by go_num, by omega, by rw [← mixF_step (x / 2) j]; exact (unhide V5).set j _, below_of_kept (unhide K5) (kept_set _ _ _ _) (by omega) (unhide K5).size⟩
                    case measure => simp [intOf]; omega
                  · have e7 : j = 32 := by omega
                    subst e7
                    go_wp2_with fail
                    go_roundw
                    case rel => exact ⟨k + 1, by go_num, by omega, by rw [show cB r c (k + 1) = cS (cB r c k ^^^ bT c k) from rfl, ← unhide EX, cS_in _ _ (bT_lt c k) (unhide D)]; exact (unhide V5).congr (fun i hi => by unfold mixF; rw [if_pos hi]), unhide K5⟩
                    case measure => simp [intOf]; omega
            · have e7 : k = 8 := by omega
              subst e7
              go_wp2_with fail
              go_roundw
              case rel => exact ⟨i + 1, by go_num, by omega, by rw [show cF (bgS s) g (i + 1) = cN 8 (cF (bgS s) g i ^^^ g i) from rfl, ← unhide ER, ← unhide EC, ← cB_8 _ _ hb, ← unhide EX]; exact unhide V, unhide K3⟩
              case measure => simp [intOf]; omega
        · have e7 : i = len := by omega
          subst e7
          go_wp2_with fail
          go_loop [13, 14] (fun ns ks => ∃ m : Nat, m ≤ 32 ∧ ks = .int .i64 (31 - (m : Int)) ∧ ns = .int .i64 ((2 ^ m - 1 - r / 2 ^ (32 - m) : Nat) : Int)) (fun _ ks => (intOf ks + 1).toNat)
          case atStart => exact ⟨0, by omega, rfl, by rw [show (2 ^ 0 - 1 - r / 2 ^ (32 - 0) : Nat) = 0 by rw [show 2 ^ 0 - 1 = 0 from rfl, Nat.zero_sub]]; rfl⟩
          case round =>
            obtain ⟨m, hm, rfl, rfl⟩ := hrel
            by_cases hm2 : m < 32
            · obtain ⟨k, hk, rfl⟩ : ∃ k, k < 32 ∧ m = 31 - k := ⟨31 - m, by omega, by omega⟩
              have e8 : (31 - ((31 - k : Nat) : Int)) = (k : Int) := by omega
              rw [e8]
              have nb : 2 ^ (31 - k) - 1 - r / 2 ^ (32 - (31 - k)) < 4294967296 := by
                have : 2 ^ (31 - k) ≤ 2 ^ 31 := Nat.pow_le_pow_right (by omega) (by omega)
                exact Nat.lt_of_le_of_lt (Nat.le_trans (Nat.sub_le _ _) (Nat.sub_le _ _)) (Nat.lt_of_le_of_lt this (by decide))
              have nu : 2 * (2 ^ (31 - k) - 1 - r / 2 ^ (32 - (31 - k))) + 1 - bT r k = 2 ^ (31 - k + 1) - 1 - r / 2 ^ (32 - (31 - k + 1)) := by
                rcases bits_up r (31 - k) (by omega) with h | h
                · rw [show 31 - (31 - k) = k by omega] at h
                  rw [h, show 32 - (31 - k + 1) = k by omega]
                · exact absurd (unhide HL) h
              obtain ⟨N, eN⟩ : ∃ N, N = 2 ^ (31 - k) - 1 - r / 2 ^ (32 - (31 - k)) := ⟨_, rfl⟩
              rw [← eN] at nb nu ⊢
              have NU := hide nu; have EN := hide eN
              clear nu eN e8
              have l9 : wr.cell? ⟨w.heap.size, k, none⟩ = some (.int .i64 (bT r k : Nat)) := (unhide V).cell hk
              have b9 := bT_lt r k
              have hk2 : (k : Int) < 32 := by omega
              go_wp2_with fail
              go_round
              case rel => exact ⟨31 - k + 1, by omega, by go_num, by rw [← unhide NU]; go_num⟩
              case measure => simp [intOf] <;> omega
            · have e9 : m = 32 := by omega
              subst e9
              go_wp2_with fail
              go_ret
              exact ⟨by unfold moreN; rw [← unhide ER]; go_num, unhide K2⟩

theorem refSum_any (ao : Option Addr) (len cap : Nat) (g : Nat → Nat) (w : World) (hg : ∀ i, g i < 256) (hl : len ≤ 9223372036854775807) (hr : Rd w ao len (bF g)) :
    Calls Tryz.prog 88 #[.slice ao len cap] w fun e w' => e = .returned (.int .i64 (moreN 0 g len : Nat)) ∧ Below w.heap.size w w' := by
  go_enter Tryz.func88, Tryz.ntmps88
  go_wp2_with fail
  refine (refMore_any 0 (by unfold R64; omega) ao len cap g w hg hl hr).mono ?_
  rintro e w1 ⟨rfl, k1⟩
  go_wp2_with fail
  go_ret
  exact ⟨rfl, k1⟩

end Go.Proofs.YthimcecbgpamdaaGreat

namespace Go.Proofs.YthimcecbgpamdaaGreat

theorem low_bit (s : Int) {k : Nat} (hk : k < 32) : s / 2 ^ k % 2 = ((bT (s % 4294967296).toNat k : Nat) : Int) := by
  have h := beg_bit s hk
  have h2 : bT (bgS s) k = 1 - bT (s % 4294967296).toNat k := by
    obtain ⟨m, hm⟩ : ∃ m, m = (s % 4294967296).toNat := ⟨_, rfl⟩
    have hlt : m < 4294967296 := by omega
    unfold bgS
    rw [← hm, ← not32 m hlt, bT_x]
    have h1 : bT 4294967295 k = 1 := by
      rw [bT_bit, show 4294967295 = 2 ^ 32 - 1 by decide, Nat.testBit_two_pow_sub_one]; simp [hk]
    rw [h1]
    have := bT_lt m k
    rcases (show bT m k = 0 ∨ bT m k = 1 by omega) with h | h <;> rw [h] <;> rfl
  rw [h2] at h
  have := bT_lt (s % 4294967296).toNat k
  omega
theorem i64_or1 (y : Int) (h1 : -9223372036854775808 ≤ y) (h2 : y ≤ 9223372036854775807) (he : y % 2 = 0) : bits .or .i64 y 1 = y + 1 := by
  show IntKind.i64.wrap ((BitVec.ofInt 64 y ||| BitVec.ofInt 64 1).toNat : Int) = _
  have e1 : (BitVec.ofInt 64 1).toNat = 1 := by decide
  have e2 : (BitVec.ofInt 64 y).toNat % 2 = 0 := by rw [BitVec.toNat_ofInt]; omega
  have e3 : (BitVec.ofInt 64 y).toNat ||| 1 = (BitVec.ofInt 64 y).toNat + 1 := by
    obtain ⟨z, hz⟩ : ∃ z, z = (BitVec.ofInt 64 y).toNat := ⟨_, rfl⟩
    rw [← hz] at e2 ⊢
    have := nat_join 1 z 1 (by omega) (by omega)
    exact this
  rw [BitVec.toNat_or, e1, e3, BitVec.toNat_ofInt, IntKind.wrap_i64]
  omega

theorem x_mulpow (a b p : Nat) : (a ^^^ b) * 2 ^ p = a * 2 ^ p ^^^ b * 2 ^ p := by
  apply Nat.eq_of_testBit_eq
  intro i
  rw [Nat.testBit_xor, Nat.mul_comm, Nat.mul_comm a, Nat.mul_comm b, Nat.testBit_two_pow_mul, Nat.testBit_two_pow_mul, Nat.testBit_two_pow_mul, Nat.testBit_xor]
  by_cases h : p ≤ i <;> simp [h]
/-- Bits turned as far as this. -/
theorem turned_step (M p k : Nat) : M % 2 ^ (k + 1) * 2 ^ p = M % 2 ^ k * 2 ^ p ^^^ bT M k * 2 ^ (p + k) := by
  have e : M % 2 ^ (k + 1) = M % 2 ^ k ^^^ bT M k * 2 ^ k := by
    rw [← low_x k (Nat.mod_lt _ (Nat.two_pow_pos k)) (bT M k), Nat.mod_pow_succ]
    unfold bT
    rw [Nat.mul_comm]
  rw [e, x_mulpow, Nat.mul_assoc, ← Nat.pow_add, Nat.add_comm k p]
/-- One bit turned. -/
def tuF (h : Nat → Nat) (q b : Nat) (j : Nat) : Nat := if j = q / 8 then h j ^^^ b * 2 ^ (q % 8) else h j
theorem bit_lt {b r : Nat} (hb : b < 2) (hr : r < 8) : b * 2 ^ r < 256 := by
  have h1 : 2 ^ r ≤ 2 ^ 7 := Nat.pow_le_pow_right (by omega) (by omega)
  have h2 : b * 2 ^ r ≤ 1 * 2 ^ r := Nat.mul_le_mul_right _ (by omega)
  omega
theorem tuF_lt {h : Nat → Nat} (hh : ∀ i, h i < 256) (q : Nat) {b : Nat} (hb : b < 2) (j : Nat) : tuF h q b j < 256 := by
  unfold tuF
  split
  · exact Nat.xor_lt_two_pow (n := 8) (hh j) (bit_lt hb (by omega))
  · exact hh j
theorem tuF_V {h : Nat → Nat} (hh : ∀ i, h i < 256) {n q b : Nat} (hq : q < 8 * n) (hb : b < 2) : cV (tuF h q b) n = cV h n ^^^ b * 2 ^ q := by
  apply Nat.eq_of_testBit_eq
  intro i
  rw [Nat.testBit_xor, cV_bit (tuF_lt hh q hb), cV_bit hh, Nat.mul_comm b (2 ^ q), Nat.testBit_two_pow_mul]
  unfold tuF
  by_cases e : i / 8 = q / 8
  · rw [if_pos e, Nat.testBit_xor, Nat.mul_comm b, Nat.testBit_two_pow_mul]
    have hi : i < 8 * n := by omega
    have e1 : decide (q % 8 ≤ i % 8) = decide (q ≤ i) := by
      by_cases h : q ≤ i
      · simp [h]; omega
      · simp [h]; omega
    have e2 : q ≤ i → i % 8 - q % 8 = i - q := by omega
    rw [e1]
    by_cases h : q ≤ i
    · simp [hi, h, e2 h]
    · simp [hi, h]
  · rw [if_neg e]
    have hz : (decide (i ≥ q) && b.testBit (i - q)) = false := by
      by_cases h : q ≤ i
      · have : 1 ≤ i - q := by omega
        have hb2 : b.testBit (i - q) = false := Nat.testBit_lt_two_pow (Nat.lt_of_lt_of_le hb (by
          have : 2 ^ 1 ≤ 2 ^ (i - q) := Nat.pow_le_pow_right (by omega) this
          simpa using this))
        simp [hb2]
      · simp; omega
    rw [hz]
    simp
theorem more_ne {g h : Nat → Nat} (hg : ∀ i, g i < 256) (hh : ∀ i, h i < 256) {n p m : Nat} (hp : p < 8 * n) (hm : m % 2 = 1) (hm2 : m < 4294967296) (e : cV h n = cV g n ^^^ m * 2 ^ p) : moreN 0 h n ≠ moreN 0 g n := by
  have h1 := cF_burst (bgS 0) hg hh n p m hp hm hm2 e
  have h2 := cF_lt (bgS_lt 0) hg n
  have h3 := cF_lt (bgS_lt 0) hh n
  unfold moreN
  omega
/-- Whose sum stands behind it leaves one and the same register. -/
theorem right_left {h : Nat → Nat} (hh : ∀ i, h i < 256) (n : Nat) (e : ∀ i, i < 4 → h (n + i) = tlF (moreN 0 h n) i) : cF (bgS 0) h (n + 4) = cN 32 4294967295 := by
  rw [cF_add, cF_congr _ 4 e, cF_V _ (tlF_lt _)]
  have hR := cF_lt (bgS_lt 0) hh n
  have hs := moreN_lt 0 h n
  have e1 : cV (tlF (moreN 0 h n)) 4 = moreN 0 h n := by
    show 0 + tlF _ 0 * 2 ^ (8 * 0) + tlF _ 1 * 2 ^ (8 * 1) + tlF _ 2 * 2 ^ (8 * 2) + tlF _ 3 * 2 ^ (8 * 3) = _
    unfold tlF
    simp
    omega
  have e2 : cF (bgS 0) h n ^^^ moreN 0 h n = 4294967295 := by
    unfold moreN
    rw [← not32 _ hR, Nat.xor_comm, Nat.xor_assoc, Nat.xor_self, Nat.xor_zero]
  rw [e1, e2]
theorem slF_head (g : Nat → Nat) (n : Nat) : moreN 0 (slF g n) n = moreN 0 g n := by
  unfold moreN
  rw [cF_congr (bgS 0) n (fun i hi => show slF g n i = g i by unfold slF; rw [if_pos hi])]
theorem slF_right (g : Nat → Nat) (n : Nat) : ∀ i, i < 4 → slF g n (n + i) = tlF (moreN 0 (slF g n) n) i := by
  intro i _
  rw [slF_head]
  unfold slF
  rw [if_neg (by omega), Nat.add_sub_cancel_left]

end Go.Proofs.YthimcecbgpamdaaGreat
