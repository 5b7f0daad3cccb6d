import Derived.Test.YtdhblehhgpdpdaaGreatNear60
import Derived.Test.YtdhblehhgpdpdaaGreatNear24
import Derived.Test.YtdhblehhgpdpdaaGreatNear136
import Derived.Test.YtdhblehhgpdpdaaGreatNear15
import Derived.Test.YtdhblehhgpdpdaaGreatNear127
import Derived.Test.YtdhblehhgpdpdaaGreatNear32
import Derived.Laws.BitsLemmas
import Derived.Test.YtdhblehhgpdpdaaGreatNear80
namespace Go.Proofs.YtdhblehhgpdpdaaGreat
open Go.RowKit
def clF (fr : Int) (nd : Nat → Nd) (v : Nat → Value) (j : Nat) : Value := if j = 0 then iV fr else ndF (nd ((j - 1) / 74)) (v ((j - 1) / 74)) ((j - 1) % 74)
def ipF (rd : Nat → Nat → Int) (bad : Int) (lv : Value) (j : Nat) : Value := if j < 12 then iV (rd (j / 3) (j % 3)) else if j = 12 then iV bad else lv
def lyF (ph wo : Int) (v : Value) (j : Nat) : Value := if j = 0 then iV ph else if j = 1 then iV wo else v
def m4F (m : Nat → Ms) (v : Nat → Value) (j : Nat) : Value := msF (m (j / 4)).K (m (j / 4)).F (m (j / 4)).R (v (j / 4)) (j % 4)
def wkF (fr : Int) (nd : Nat → Nd) (v : Nat → Value) (bad : Int) (lv : Value) (bx : Nat → Value) (j : Nat) : Value := if j < 297 then clF fr nd v j else if j = 297 then iV bad else if j = 298 then lv else bx (j - 299)
def slV (a : Option Addr × Nat) (n : Nat) : Value := .slice a.1 n a.2
theorem clF_nd (fr : Int) (nd : Nat → Nd) (v : Nat → Value) {i j : Nat} (hj : j < 74) : clF fr nd v (1 + i * 74 + j) = ndF (nd i) (v i) j := by
 unfold clF
 rw [if_neg (by omega), show (1 + i * 74 + j - 1) / 74 = i by omega, show (1 + i * 74 + j - 1) % 74 = j by omega]
theorem clF_set (fr : Int) (nd : Nat → Nd) (v : Nat → Value) (i : Nat) (n : Nd) (u : Value) : ∀ j, j < 297 → stP (clF fr nd v) (1 + i * 74) 74 (ndF n u) j = clF fr (upM nd i n) (upM v i u) j := by
 intro j hj
 unfold stP
 by_cases c : 1 + i * 74 ≤ j ∧ j < 1 + i * 74 + 74
 ·rw [if_pos c]
  unfold clF
  rw [if_neg (by omega), show (j - 1) / 74 = i by omega, show (j - 1) % 74 = j - (1 + i * 74) by omega, upM_same, upM_same]
 ·rw [if_neg c]
  unfold clF
  by_cases c0 : j = 0
  ·rw [if_pos c0, if_pos c0]
  ·rw [if_neg c0, if_neg c0]
   have : (j - 1) / 74 ≠ i := by omega
   rw [upM_other _ _ this, upM_other _ _ this]
theorem clF_one (fr : Int) (nd : Nat → Nd) (a : Nat → Option Addr × Nat) (n : Nat → Nat) : ∀ j, j < 297 → (clF fr nd (fun i => slV (a i) (n i)) j).oneCell' = true := by
 intro j _
 unfold clF
 split
 ·rfl
 ·exact ndF_one _ _ _ _ _ (Nat.mod_lt _ (by decide))
theorem ipF_one (rd : Nat → Nat → Int) (bad : Int) (ao : Option Addr) (n c : Nat) : ∀ j, j < 14 → (ipF rd bad (.slice ao n c) j).oneCell' = true := by
 intro j _
 unfold ipF
 split
 ·rfl
 ·split <;> rfl
theorem lyF_one (ph wo : Int) (ao : Option Addr) (n c : Nat) : ∀ j, j < 3 → (lyF ph wo (.slice ao n c) j).oneCell' = true := by
 intro j _
 unfold lyF
 split
 ·rfl
 ·split <;> rfl
theorem m4F_at (m : Nat → Ms) (v : Nat → Value) {i j : Nat} (hj : j < 4) : m4F m v (i * 4 + j) = msF (m i).K (m i).F (m i).R (v i) j := by
 unfold m4F
 rw [show (i * 4 + j) / 4 = i by omega, show (i * 4 + j) % 4 = j by omega]
theorem m4F_one (m : Nat → Ms) (a : Nat → Option Addr × Nat) (n : Nat → Nat) : ∀ j, j < 16 → (m4F m (fun i => slV (a i) (n i)) j).oneCell' = true := by
 intro j _
 exact msF_one _ _ _ _ _ _ _ (Nat.mod_lt _ (by decide))
theorem m4F_set (m : Nat → Ms) (v : Nat → Value) (i : Nat) (n : Ms) (u : Value) : ∀ j, j < 16 → stP (m4F m v) (i * 4) 4 (msF n.K n.F n.R u) j = m4F (upM m i n) (upM v i u) j := by
 intro j hj
 unfold stP
 by_cases c : i * 4 ≤ j ∧ j < i * 4 + 4
 ·rw [if_pos c]
  unfold m4F
  rw [show j / 4 = i by omega, show j % 4 = j - i * 4 by omega, upM_same, upM_same]
 ·rw [if_neg c]
  unfold m4F
  have : j / 4 ≠ i := by omega
  rw [upM_other _ _ this, upM_other _ _ this]
theorem wkF_cl {fr : Int} {nd : Nat → Nd} {v : Nat → Value} {bad : Int} {lv : Value} {bx : Nat → Value} {j : Nat} (hj : j < 297) : wkF fr nd v bad lv bx j = clF fr nd v j := if_pos hj
theorem wkF_set (fr : Int) (nd : Nat → Nd) (v : Nat → Value) (bad : Int) (lv : Value) (bx : Nat → Value) {i : Nat} (hi : i < 4) (n : Nd) (u : Value) : ∀ j, j < 303 → stP (wkF fr nd v bad lv bx) (1 + i * 74) 74 (ndF n u) j = wkF fr (upM nd i n) (upM v i u) bad lv bx j := by
 intro j hj
 by_cases c : j < 297
 ·rw [wkF_cl c, ← clF_set fr nd v i n u j c]
  unfold stP
  split
  ·rfl
  ·exact wkF_cl c
 ·rw [stP_out _ _ (by omega)]
  unfold wkF
  rw [if_neg c, if_neg c]
theorem wkF_bx (fr : Int) (nd : Nat → Nd) (v : Nat → Value) (bad : Int) (lv : Value) (bx : Nat → Value) (i : Nat) (u : Value) : ∀ j, j < 303 → stW (wkF fr nd v bad lv bx) (299 + i) u j = wkF fr nd v bad lv (upM bx i u) j := by
 intro j hj
 by_cases c : j = 299 + i
 ·subst c
  rw [stW_same]
  unfold wkF
  rw [if_neg (by omega), if_neg (by omega), if_neg (by omega), Nat.add_sub_cancel_left, upM_same]
 ·rw [stW_other _ _ c]
  unfold wkF
  by_cases c1 : j < 297
  ·rw [if_pos c1, if_pos c1]
  ·rw [if_neg c1, if_neg c1]
   by_cases c2 : j = 297
   ·rw [if_pos c2, if_pos c2]
   ·rw [if_neg c2, if_neg c2]
    by_cases c3 : j = 298
    ·rw [if_pos c3, if_pos c3]
    ·rw [if_neg c3, if_neg c3, upM_other _ _ (by omega)]
theorem stP_whole {g f : Nat → Value} {n : Nat} : ∀ j, j < n → stP g 0 n f j = f j := fun j hj => by
 have := stP_in g (o := 0) (n := n) f hj
 rwa [Nat.zero_add] at this
instance : ZerK Tryz.prog 40 297 (clF 0 (fun _ => zeroN) (fun _ => slV (none, 0) 0)) := ⟨fun w => by kernel_rfl⟩
instance : ZerK Tryz.prog 43 14 (ipF (fun _ _ => 0) 0 (.slice none 0 0)) := ⟨fun w => by kernel_rfl⟩
instance : ZerK Tryz.prog 59 3 (lyF 0 0 (.slice none 0 0)) := ⟨fun w => by kernel_rfl⟩
instance : ZerK Tryz.prog 96 14 (rpF zeroN) := ⟨zeroRp⟩
instance : ZerK Tryz.prog 82 16 (m4F (fun _ => zeroM) (fun _ => slV (none, 0) 0)) := ⟨fun w => by kernel_rfl⟩
theorem run_bldC0 {f : Operand → Value} {o : Oper} (ho : o.op = .build 40 #[]) (w : World) : (execOp f o).run Tryz.prog w = .ok (.value (agV (clF 0 (fun _ => zeroN) (fun _ => slV (none, 0) 0)) 0 297)) w := by
 unfold execOp
 rw [ho]
 kernel_rfl
def omI (B : Nat) (v : Value) (L : List Lm) : It := ⟨fun w => OwnM w B v L, fun k => v.ownBlock = some k ∨ ∃ c, c ∈ L ∧ (lmV c).ownBlock = some k,
 fun h e => ⟨rw_same h.1 (fun k hk => e k (h.1.lt k hk).2 (Or.inl hk)), fun c hc => rw_same (h.2 c hc) (fun k hk => e k ((h.2 c hc).lt k hk).2 (Or.inr ⟨c, hc, hk⟩))⟩,
 fun h e => by
  rcases e with e | ⟨c, hc, e⟩
  ·exact (h.1.lt _ e).2
  ·exact ((h.2 c hc).lt _ e).2⟩
theorem om_up {B : Nat} {v : Value} {L : List Lm} {w : World} (h : OwnM w B v L) : ∀ j, (omI B v L).foot j → B ≤ j := fun j e => by
 rcases e with e | ⟨c, hc, e⟩
 ·exact (h.1.lt _ e).1
 ·exact ((h.2 c hc).lt _ e).1
theorem OwnM.base {w : World} {B C : Nat} {v : Value} {L : List Lm} (h : OwnM w B v L) (e : C ≤ B) : OwnM w C v L := ⟨rw_base h.1 e, fun c hc => rw_base (h.2 c hc) e⟩
theorem om_join {w0 w w' : World} {v u v' : Value} {L M : List Lm} {l : List It} (H : Cx w0 w (omI w0.heap.size v L :: omI w0.heap.size u M :: l)) (h2 : w'.ownsRow w0.heap.size 81 4 v' (L.length + M.length) (lmL L ++ lmL M)) (h3 : w.grownBy w' v.ownBlock) (h4 : ∀ k, v'.ownBlock = some k → v.ownBlock = some k ∨ w.heap.size ≤ k) : Cx w0 w' (omI w0.heap.size v' (L ++ M) :: l) := by
 have hL : OwnM w w0.heap.size v L := H.o0
 have hM : OwnM w w0.heap.size u M := H.o1
 have apart : ∀ c, OwnV w w0.heap.size c → ∀ k, (lmV c).ownBlock = some k → some k ≠ v.ownBlock := fun c hc k hk e => by
  obtain ⟨u1, hu1⟩ := own_type hc hk
  obtain ⟨u2, hu2⟩ := own_type hL.1 e.symm
  rw [hu1] at hu2
  cases hu2
 have kp : ∀ c, OwnV w w0.heap.size c → OwnV w' w0.heap.size c := fun c hc => rw_same hc (fun k hk => h3.block k (hc.lt k hk).2 (apart c hc k hk))
 have hn : OwnM w' w0.heap.size v' (L ++ M) := ⟨by rw [List.length_append, lmL_append]; exact h2, fun c hc => by
  rcases List.mem_append.1 hc with hc | hc
  ·exact kp c (hL.2 c hc)
  ·exact kp c (hM.2 c hc)⟩
 refine H.merge.p0 h3.os h3.tape h3.output h3.size (fun j h5 h6 => h3.block j h5 (fun e => h6 (Or.inl (Or.inl e.symm)))) (omI w0.heap.size v' (L ++ M)) hn (fun j hj => ?_)
 rcases hj with hj | ⟨c, hc, hj⟩
 ·rcases h4 j hj with h | h
  ·exact Or.inl (Or.inl (Or.inl h))
  ·exact Or.inr h
 ·rcases List.mem_append.1 hc with hc | hc
  ·exact Or.inl (Or.inl (Or.inr ⟨c, hc, hj⟩))
  ·exact Or.inl (Or.inr (Or.inr ⟨c, hc, hj⟩))
theorem q_apM {ops : Array Oper} {Q : Exit → Act → World → Prop} {A : Act} {L' : List (Nat × Value)} {w0 w : World} {rest : List Oper} {o : Oper} {d : Nat} {l : List It} {L M : List Lm} {v u : Value} {s x : Operand} (H : Cx w0 w (omI w0.heap.size v L :: omI w0.heap.size u M :: l)) (hl : L.length + M.length ≤ 2932031007401)
  (h : ∀ v' w', Cx w0 w' (omI w0.heap.size v' (L ++ M) :: l) → LstI Tryz.prog ops Q rest (putL A ((d, v') :: L')) w')
  (ho : o.op = .call { callee := .builtin .append, args := #[s, x], argTypes := #[85, 85] } := by rfl) (hs : (putL A L').eval s = v := by exact Qv) (hx : (putL A L').eval x = u := by exact Qv) (hd : o.dst = some d := by rfl) (hw : Region.wanted o (yielded ops (putL A L').tmps) = true := by exact wanted_rd rfl) : LstI Tryz.prog ops Q (o :: rest) (putL A L') w := by
 have hL : OwnM w w0.heap.size v L := H.o0
 have hM : OwnM w w0.heap.size u M := H.o1
 exact m_do hd hw (fun _ hK => wp_joinA ho inferInstance H.size hs hx hL.1 (rdc_own hM.1) lmL_one (by unfold maxLen; omega) (by omega) (fun v' w' h2 h3 h4 => hK _ _ (h v' w' (om_join H h2 h3 h4))))
theorem own_oneM {w : World} {b B : Nat} {c : Lm} (h : Vh 81 w b 4 4 (lmF c)) (hb : B ≤ b) : w.ownsRow B 81 4 (.slice (some ⟨b, 0, none⟩) 1 1) 1 (lmL [c]) := by
 obtain ⟨cur, h1, h2, h3, h4, h5⟩ := h
 refine ⟨rfl, Or.inr ⟨b, 1, cur, rfl, hb, h1, Nat.le_refl _, by decide, by omega, ?_⟩⟩
 apply List.ext_getElem?
 intro i
 rw [List.getElem?_take]
 by_cases hi : i < 1 * 4
 ·rw [if_pos hi, Array.getElem?_toList, h5 i (by omega)]
  have := lmL_at [c] 0 c rfl i (by omega)
  rw [Nat.zero_mul, Nat.zero_add] at this
  exact this.symm
 ·rw [if_neg hi, List.getElem?_eq_none (by rw [lmL_len]; exact Nat.le_of_not_lt hi)]
theorem om_swap {w0 w w' : World} {u : Value} {c : Lm} {l : List It} {x : It} (H : Cx w0 w (x :: omI w0.heap.size u [c] :: l)) (k : Below w.heap.size w w') (m : Vh 81 w' w.heap.size 4 4 (lmF c)) : Cx w0 w' (x :: omI w0.heap.size (.slice (some ⟨w.heap.size, 0, none⟩) 1 1) [c] :: l) := by
 have hM : OwnM w w0.heap.size u [c] := H.o1
 refine H.p1 k.os k.tape k.output k.size (fun j h5 _ => k.block j h5) (omI w0.heap.size (.slice (some ⟨w.heap.size, 0, none⟩) 1 1) [c]) ⟨own_oneM m H.size, fun d hd => rw_below (hM.2 d hd) k⟩ (fun j hj => ?_)
 rcases hj with hj | hj
 ·cases hj; exact Or.inr (Nat.le_refl _)
 ·exact Or.inl (Or.inr hj)
structure Lj where
 y : Ly
 ao : Option Addr
 cap : Nat
def ljV (c : Lj) : Value := .slice c.ao c.y.n c.cap
def ljF (c : Lj) : Nat → Value := lyF c.y.ph c.y.wo (ljV c)
def LjRd (w : World) (ao : Option Addr) (L : List Lj) : Prop := 0 < L.length → ∃ b o, ao = some ⟨b, o, none⟩ ∧ ∀ i c, L[i]? = some c → ∀ k, k < 3 → w.cell? ⟨b, o + i * 3 + k, none⟩ = some (ljF c k)
def LbRd (w : World) (c : Lj) : Prop := Sr w c.ao c.y.n c.cap (bF c.y.g) ∧ c.y.n ≤ c.cap ∧ c.y.n ≤ 140737488351232 ∧ ∀ i, c.y.g i < 256
def JRd (w : World) (ao : Option Addr) (L : List Lj) : Prop := LjRd w ao L ∧ ∀ c, c ∈ L → LbRd w c
theorem JRd.below {w w' : World} {ao : Option Addr} {L : List Lj} (h : JRd w ao L) (k : Below w.heap.size w w') : JRd w' ao L := ⟨fun hl => by
 obtain ⟨b, o, e, hc⟩ := h.1 hl
 exact ⟨b, o, e, fun i c hi j hj => at_below (hc i c hi j hj) k⟩, fun c hc => ⟨(h.2 c hc).1.below k, (h.2 c hc).2⟩⟩
theorem agV_cong {g f : Nat → Value} {o n : Nat} (h : ∀ j, j < n → g (o + j) = f j) : agV g o n = agV f 0 n := by
 unfold agV
 congr 2
 refine List.map_congr_left fun j hj => ?_
 rw [h j (List.mem_range.1 hj), Nat.zero_add]
section
variable {P : Program} {Q : Exit → Act → World → Prop} {a : Act} {w : World} {y : Code} {id id2 : Nat} {ops : Array Oper}
theorem c_fin2 (h : CodI P y Q a w) : CodI P .skip (Exit.inBlock id (Exit.inBlock id2 (Nx P y Q))) a w := c_skip h
theorem l_fin2 (h : CodI P y Q a w) : LstI P ops (Exit.inBlock id (Exit.inBlock id2 (Nx P y Q))) [] a w := ⟨wpList_nil h⟩
end
end Go.Proofs.YtdhblehhgpdpdaaGreat
namespace Go.Proofs.YtdhblehhgpdpdaaGreat
open Go.RowKit
section
variable {n : Nd} {s : Nat} {kind : Int} {many : Nat}
end
theorem wrM_F {m m' : Ms} (h : m' ∈ wrM m) : m' = m := by
 unfold wrM at h
 split at h
 ·simpa using h
 ·cases h
theorem four {i : Nat} (h : i < 4) : i = 0 ∨ i = 1 ∨ i = 2 ∨ i = 3 := by omega
section
variable {H : Nat → Nat → Int} {T : Nat → Nat → Nat → Int} {bad : Int}
end
section
variable {x : Ip} {c : Cl}
def ndK (x : Ip) (c : Cl) (k i : Nat) : Nd := (wkK x c k).nd i
def bxK (x : Ip) (c : Cl) (k i : Nat) : List Ms := (wkK x c k).bx i
def mgK (x : Ip) (c : Cl) (k i : Nat) : Ms := wkM x c.fr (wkK x c k) k i
theorem ndK_succ {k i : Nat} (h : (i : Int) ≠ x.bad) : ndK x c (k + 1) i = phN k (ndK x c k i) c.fr (x.rd i) (bxK x c k i) := by
 show (if (i : Int) = x.bad then _ else _) = _
 rw [if_neg h]; rfl
theorem mgK_at {k i : Nat} (h : (i : Int) ≠ x.bad) : mgK x c k i = phM k (ndK x c k i) c.fr (x.rd i) (bxK x c k i) := by
 show (if (i : Int) = x.bad then _ else _) = _
 rw [if_neg h]; rfl
theorem nd1 {i : Nat} (h : (i : Int) ≠ x.bad) : ndK x c 1 i = senN (c.nd i) c.fr (x.rd i) := ndK_succ h
theorem nd2 {i : Nat} (h : (i : Int) ≠ x.bad) : ndK x c 2 i = relN (ndK x c 1 i) (bxK x c 1 i) := ndK_succ h
theorem nd3 {i : Nat} (h : (i : Int) ≠ x.bad) : ndK x c 3 i = decN (ndK x c 2 i) (bxK x c 2 i) := ndK_succ h
theorem nd4 {i : Nat} (h : (i : Int) ≠ x.bad) : ndK x c 4 i = pasN (ndK x c 3 i) (bxK x c 3 i) := ndK_succ h
theorem nd5 {i : Nat} (h : (i : Int) ≠ x.bad) : ndK x c 5 i = judN (ndK x c 4 i) (bxK x c 4 i) := ndK_succ h
theorem mg0 {i : Nat} (h : (i : Int) ≠ x.bad) : mgK x c 0 i = senM (c.nd i) c.fr (x.rd i) := mgK_at h
theorem id0 (hE : frE x c = 0) {i : Nat} (hi : i < 4) : (c.nd i).id = (i : Nat) := (frE_ok hE).2.2.2 i hi
theorem sen_at (hE : frE x c = 0) {i : Nat} (hi : i < 4) (g : (i : Int) ≠ x.bad) : ndK x c 1 i = { c.nd i with fr := c.fr, di := fun s a => if (s : Int) = (c.nd i).id then x.rd i a else 0, he := fun _ => 0 } := by
 rw [nd1 g]; unfold senN; rw [if_neg (by rw [id0 hE hi, noN_at hi]; decide)]
theorem rel_atC (hE : frE x c = 0) {i : Nat} (hi : i < 4) (g : (i : Int) ≠ x.bad) : ndK x c 2 i = { ndK x c 1 i with di := relD (ndK x c 1 i) (bxK x c 1 i) } := by
 rw [nd2 g]; unfold relN; rw [if_neg (by rw [sen_at hE hi g]; show ¬ noN (c.nd i).id = true; rw [id0 hE hi, noN_at hi]; decide)]
theorem id1 (hE : frE x c = 0) {i : Nat} (hi : i < 4) (g : (i : Int) ≠ x.bad) : (ndK x c 1 i).id = (i : Nat) := by rw [sen_at hE hi g]; exact id0 hE hi
theorem id2 (hE : frE x c = 0) {i : Nat} (hi : i < 4) (g : (i : Int) ≠ x.bad) : (ndK x c 2 i).id = (i : Nat) := by rw [rel_atC hE hi g]; exact id1 hE hi g
theorem dec_at (hE : frE x c = 0) {i : Nat} (hi : i < 4) (g : (i : Int) ≠ x.bad) : ndK x c 3 i = { ndK x c 2 i with ag := decG (ndK x c 2 i) (bxK x c 2 i), us := decU (ndK x c 2 i) (bxK x c 2 i), ax := decA (ndK x c 2 i) (bxK x c 2 i), dg := decD (ndK x c 2 i) (bxK x c 2 i), he := fun s => if (s : Int) = (ndK x c 2 i).id then decD (ndK x c 2 i) (bxK x c 2 i) else (ndK x c 2 i).he s } := by
 rw [nd3 g]; unfold decN; rw [if_neg (by rw [id2 hE hi g, noN_at hi]; decide)]
theorem id3 (hE : frE x c = 0) {i : Nat} (hi : i < 4) (g : (i : Int) ≠ x.bad) : (ndK x c 3 i).id = (i : Nat) := by rw [dec_at hE hi g]; exact id2 hE hi g
theorem pas_at (hE : frE x c = 0) {i : Nat} (hi : i < 4) (g : (i : Int) ≠ x.bad) : ndK x c 4 i = { ndK x c 3 i with he := pasH (ndK x c 3 i) (bxK x c 3 i) } := by
 rw [nd4 g]; unfold pasN; rw [if_neg (by rw [id3 hE hi g, noN_at hi]; decide)]
theorem id4 (hE : frE x c = 0) {i : Nat} (hi : i < 4) (g : (i : Int) ≠ x.bad) : (ndK x c 4 i).id = (i : Nat) := by rw [pas_at hE hi g]; exact id3 hE hi g
theorem jud_at (hE : frE x c = 0) {i : Nat} (hi : i < 4) (g : (i : Int) ≠ x.bad) : ndK x c 5 i = { ndK x c 4 i with vX := judX (ndK x c 4 i) (bxK x c 4 i), vS := judS (ndK x c 4 i) (bxK x c 4 i), vA := (List.range 4).map (judA (ndK x c 4 i) (bxK x c 4 i)), rl := judR (ndK x c 4 i) (bxK x c 4 i) } := by
 rw [nd5 g]; unfold judN; rw [if_neg (by rw [id4 hE hi g, noN_at hi]; decide)]
theorem id5 (hE : frE x c = 0) {i : Nat} (hi : i < 4) (g : (i : Int) ≠ x.bad) : (ndK x c 5 i).id = (i : Nat) := by rw [jud_at hE hi g]; exact id4 hE hi g
theorem ms0 (hE : frE x c = 0) {i : Nat} (hi : i < 4) (g : (i : Int) ≠ x.bad) : mgK x c 0 i = ⟨1, (i : Nat), c.fr, [x.rd i 0, x.rd i 1, x.rd i 2]⟩ := by
 rw [mg0 g]; unfold senM; rw [if_neg (by rw [id0 hE hi, noN_at hi]; decide), id0 hE hi]
end
end Go.Proofs.YtdhblehhgpdpdaaGreat
namespace Go.Proofs.YtdhblehhgpdpdaaGreat
open Go.RowKit
theorem R64_zero : R64 0 := ⟨by decide, by decide⟩
theorem gL_R {l : List Int} (h : ∀ x, x ∈ l → R64 x) (i : Nat) : R64 (gL l i) := by
 unfold gL
 rw [List.getD_eq_getElem?_getD]
 rcases Nat.lt_or_ge i l.length with c | c
 ·rw [List.getElem?_eq_getElem c]
  exact h _ (List.getElem_mem c)
 ·rw [List.getElem?_eq_none c]
  exact R64_zero
theorem dc3_R {a b c : Int} (ha : R64 a) (hb : R64 b) : R64 (dc3 a b c) := by
 unfold dc3
 split
 ·exact ha
 ·split
  ·exact ha
  ·split
   ·exact hb
   ·exact R64_zero
theorem frst_mem {n : Nd} {L : List Lm} {s : Nat} {kind : Int} {many : Nat} {v : List Int} (h : frst n (L.map Lm.m) s kind many = some v) : ∃ c, c ∈ L ∧ c.m.L = v := by
 rw [← fL_frst] at h
 obtain ⟨c, h1, h2⟩ := Option.map_eq_some_iff.1 h
 exact ⟨c, List.mem_of_find?_eq_some h1, h2⟩
theorem tld_R {n : Nd} {L : List Lm} (hRL : ∀ m, m ∈ L → ∀ i, R64 (gL m.m.L i)) (i k many : Nat) : R64 (tldN n (L.map Lm.m) i k many) := by
 unfold tldN
 cases e : frst n (L.map Lm.m) i 2 many with
 | none => exact R64_zero
 | some v =>
  obtain ⟨c, h1, rfl⟩ := frst_mem e
  exact hRL c h1 k
theorem tkn_R {n : Nd} {L : List Lm} (hRL : ∀ m, m ∈ L → ∀ i, R64 (gL m.m.L i)) {s : Nat} {h : Int} {k many : Nat} (hh : R64 h) : R64 (tkn n (L.map Lm.m) s h k many) := by
 unfold tkn
 split
 ·exact hh
 ·exact dc3_R hh (tld_R hRL _ _ _)
end Go.Proofs.YtdhblehhgpdpdaaGreat
namespace Go.Proofs.YtdhblehhgpdpdaaGreat
open Go.RowKit
theorem ndF_us (n : Nd) (v : Value) {a : Nat} (ha : a < 3) : ndF n v (0 + 67 + a * 1) = .int .i64 (n.us a) := by
 unfold ndF
 rw [if_neg (by omega), if_neg (by omega), if_neg (by omega), if_neg (by omega), if_neg (by omega), if_neg (by omega), if_neg (by omega), if_pos (by omega), show 0 + 67 + a * 1 - 67 = a by omega]
 rfl
def NA (n : Nd) (ag : Nat → Nat → Int) (us : Nat → Int) (ax : Nat → St) : Nd := { n with ag := ag, us := us, ax := ax }
def usP (n : Nd) (l : List Ms) (x k : Nat) : Int := if k < x then decU n l k else n.us k
def axP (n : Nd) (l : List Ms) (x k : Nat) : St := if k < x then decA n l k else n.ax k
theorem us_next {n : Nd} {l : List Ms} {x : Nat} : (fun k => if k = x then midL (insL n.rl.I (fun s => decG n l s x) 4) else usP n l x k) = usP n l (x + 1) := by
 funext k
 unfold usP
 by_cases c : k = x
 ·subst c
  rw [if_pos rfl, if_pos (by omega)]
  rfl
 ·rw [if_neg c]
  by_cases c2 : k < x
  ·rw [if_pos c2, if_pos (by omega)]
  ·rw [if_neg c2, if_neg (by omega)]
theorem usP_at {n : Nd} {l : List Ms} {x : Nat} : usP n l (x + 1) x = decU n l x := by
 unfold usP
 rw [if_pos (by omega)]
theorem ax_next {n : Nd} {l : List Ms} {x : Nat} : (fun k => if k = x then decA n l x else axP n l x k) = axP n l (x + 1) := by
 funext k
 unfold axP
 by_cases c : k = x
 ·subst c
  rw [if_pos rfl, if_pos (by omega)]
 ·rw [if_neg c]
  by_cases c2 : k < x
  ·rw [if_pos c2, if_pos (by omega)]
  ·rw [if_neg c2, if_neg (by omega)]
theorem dec_he {n : Nd} {I : Nat} {x : Int} (h : n.id = (I : Int)) : (fun s : Nat => if (s : Int) = n.id then x else n.he s) = fun s => if s = I then x else n.he s := by
 funext s
 rw [h]
 by_cases e : s = I
 ·rw [if_pos (by omega), if_pos e]
 ·rw [if_neg (by omega), if_neg e]
theorem ins_t {b : Nat → Bool} {f : Nat → Int} {i : Nat} (h : b i = true) : insL b f (i + 1) = insL b f i ++ [f i] := by
 show insL b f i ++ _ = _
 rw [h]; rfl
theorem ins_f {b : Nat → Bool} {f : Nat → Int} {i : Nat} (h : b i = false) : insL b f (i + 1) = insL b f i := by
 show insL b f i ++ _ = _
 rw [h]
 exact List.append_nil _
theorem decG_R {n : Nd} {L : List Lm} (hok : NdOK n) (hRL : ∀ m, m ∈ L → ∀ i, R64 (gL m.m.L i)) (s a : Nat) : R64 (decG n (L.map Lm.m) s a) := tkn_R hRL (hok.di s a)
theorem srt_R {l : List Int} (h : ∀ x, x ∈ l → R64 x) (i : Nat) : R64 ((srt l).getD i 0) := by
 refine gL_R (l := srt l) (fun x hx => h x ?_) i
 unfold srt at hx
 exact (List.mem_mergeSort).1 hx
theorem midL_R {l : List Int} (h : ∀ x, x ∈ l → R64 x) : R64 (midL l) := by
 unfold midL
 split
 ·have h1 := srt_R h ((l.length - 1) / 3)
  have h2 := srt_R h (l.length - 1 - (l.length - 1) / 3)
  unfold R64 at h1 h2 ⊢
  omega
 ·exact R64_zero
theorem insL_mem {b : Nat → Bool} {f : Nat → Int} (h : ∀ s, R64 (f s)) (k : Nat) : ∀ x, x ∈ insL b f k → R64 x := by
 induction k with
 | zero => intro x hx; exact absurd hx (List.not_mem_nil)
 | succ k ih =>
  intro x hx
  rcases List.mem_append.1 hx with c | c
  ·exact ih x c
  ·split at c
   ·rw [List.mem_singleton.1 c]; exact h k
   ·exact absurd c (List.not_mem_nil)
theorem decU_R {n : Nd} {L : List Lm} (hok : NdOK n) (hRL : ∀ m, m ∈ L → ∀ i, R64 (gL m.m.L i)) (a : Nat) : R64 (decU n (L.map Lm.m) a) := midL_R (insL_mem (fun s => decG_R hok hRL s a) 4)
theorem lsN_gL (l : List Int) : lsN (gL l) l.length = l := by
 unfold lsN
 apply List.ext_getElem?
 intro i
 rcases Nat.lt_or_ge i l.length with c | c
 ·rw [List.getElem?_map, List.getElem?_range c, List.getElem?_eq_getElem c]
  show some (gL l i) = _
  unfold gL
  rw [List.getD_eq_getElem?_getD, List.getElem?_eq_getElem c]
  rfl
 ·rw [List.getElem?_eq_none c, List.getElem?_eq_none (by simpa using c)]
end Go.Proofs.YtdhblehhgpdpdaaGreat
namespace Go.Proofs.YtdhblehhgpdpdaaGreat
open Go.RowKit
def MsR (l : List Ms) : Prop := ∀ m, m ∈ l → ∀ i, R64 (gL m.L i)
structure MsOK (m : Ms) : Prop where
 K : R64 m.K
 F : R64 m.F
 R : R64 m.R
 L : ∀ i, R64 (gL m.L i)
 n : m.L.length ≤ 24
theorem frst_R {n : Nd} {l : List Ms} {s : Nat} {kind : Int} {many : Nat} {v : List Int} (h : MsR l) (hv : frst n l s kind many = some v) (i : Nat) : R64 (v.getD i 0) := by
 unfold frst at hv
 obtain ⟨m, h1, rfl⟩ := Option.map_eq_some_iff.1 hv
 exact h m (List.mem_of_find?_eq_some h1) i
theorem tknR {n : Nd} {l : List Ms} (h : MsR l) {s : Nat} {v : Int} {k many : Nat} (hv : R64 v) : R64 (tkn n l s v k many) := by
 unfold tkn
 split
 ·exact hv
 ·refine dc3_R hv ?_
  unfold tldN
  split
  ·rename_i u e; exact frst_R h e k
  ·exact R64_zero
theorem R64_sum {x : Nat} (h : x ≤ 4294967295) : R64 ((x : Nat) : Int) := by unfold R64; omega
theorem dgN_R (ax : Nat → St) (r : Rl) : R64 (dgN ax r) := R64_sum (Nat.sub_le _ _)
theorem pck_mem {ax : Nat → St} {r : Rl} (h : ∀ a, (ax a).Ok) : ∀ x, x ∈ pck ax r → R64 x := by
 have h1 : ∀ a x, x ∈ axL (ax a) → R64 x := fun a x hx => by
  unfold axL at hx
  simp only [List.mem_cons, List.not_mem_nil, or_false] at hx
  rcases hx with rfl | rfl | rfl | rfl | rfl | rfl | rfl
  ·exact (h a).X
  ·exact (h a).V
  ·exact (h a).P00
  ·exact (h a).P01
  ·exact (h a).P11
  ·unfold R64; split <;> omega
  ·exact (h a).M
 have h2 : ∀ (f : Nat → Int) k, R64 (ctN8 f (k + 1)) := fun f k => by
  show R64 (wrap64 _)
  unfold R64 wrap64; omega
 intro x hx
 unfold pck at hx
 simp only [List.mem_append, List.mem_cons, List.not_mem_nil, or_false] at hx
 rcases hx with ((hx | hx) | hx) | rfl | rfl | rfl
 ·exact h1 0 x hx
 ·exact h1 1 x hx
 ·exact h1 2 x hx
 ·unfold inN R64; split <;> split <;> split <;> split <;> omega
 ·exact h2 _ 3
 ·exact h2 _ 3
theorem zeroM_ok : MsOK zeroM := ⟨R64_zero, R64_zero, R64_zero, fun i => gL_R (fun x hx => by cases hx) i, Nat.zero_le _⟩
section
variable {n : Nd} {l : List Ms}
theorem senN_ok (h : NdOK n) {fr : Int} {rd : Nat → Int} (hf : R64 fr) (hr : ∀ a, R64 (rd a)) : NdOK (senN n fr rd) := by
 unfold senN
 split
 ·exact h
 ·exact ⟨h.id, hf, h.tn, h.ax, h.rM, h.rJ, fun s a => by show R64 (if _ then _ else _); split; exact hr a; exact R64_zero, fun _ => R64_zero, h.ag, h.us, h.dg, h.vX, h.vA⟩
theorem senM_ok (h : NdOK n) {fr : Int} {rd : Nat → Int} (hf : R64 fr) (hr : ∀ a, R64 (rd a)) : MsOK (senM n fr rd) := by
 unfold senM
 split
 ·exact ⟨R64_zero, R64_zero, R64_zero, fun i => gL_R (fun x hx => by cases hx) i, Nat.zero_le _⟩
 ·refine ⟨(show R64 1 by unfold R64; decide), h.id, hf, fun i => gL_R (fun x hx => ?_) i, by show 3 ≤ 24; decide⟩
  simp only [List.mem_cons, List.not_mem_nil, or_false] at hx
  rcases hx with rfl | rfl | rfl <;> exact hr _
theorem relD_R (h : NdOK n) (hl : MsR l) (s a : Nat) : R64 (relD n l s a) := by
 unfold relD
 split
 ·rename_i v e; exact frst_R hl e a
 ·exact h.di s a
theorem relN_ok (h : NdOK n) (hl : MsR l) : NdOK (relN n l) := by
 unfold relN
 split
 ·exact h
 ·exact ⟨h.id, h.fr, h.tn, h.ax, h.rM, h.rJ, relD_R h hl, h.he, h.ag, h.us, h.dg, h.vX, h.vA⟩
theorem relM_ok (h : NdOK n) (hl : MsR l) : MsOK (relM n l) := by
 unfold relM
 split
 ·exact zeroM_ok
 ·refine ⟨(show R64 2 by unfold R64; decide), h.id, h.fr, fun i => gL_R (fun x hx => ?_) i, by simp⟩
  obtain ⟨q, _, rfl⟩ := List.mem_map.1 hx
  exact relD_R h hl _ _
theorem decG_ok (h : NdOK n) (hl : MsR l) (s a : Nat) : R64 (decG n l s a) := tknR hl (h.di s a)
theorem decU_ok (h : NdOK n) (hl : MsR l) (a : Nat) : R64 (decU n l a) := midL_R (insL_mem (fun s => decG_ok h hl s a) 4)
theorem decN_ok (h : NdOK n) (hl : MsR l) : NdOK (decN n l) := by
 unfold decN
 split
 ·exact h
 ·exact ⟨h.id, h.fr, h.tn, fun a => stepS_ok (h.ax a) _ _, h.rM, h.rJ, h.di, fun s => by show R64 (if _ then _ else _); split; exact dgN_R _ _; exact h.he s, decG_ok h hl, decU_ok h hl, dgN_R _ _, h.vX, h.vA⟩
theorem decM_ok (h : NdOK n) (_ : MsR l) : MsOK (decM n l) := by
 unfold decM
 split
 ·exact zeroM_ok
 ·refine ⟨(show R64 3 by unfold R64; decide), h.id, h.fr, fun i => gL_R (fun x hx => ?_) i, by show 1 ≤ 24; decide⟩
  simp only [List.mem_cons, List.not_mem_nil, or_false] at hx
  rw [hx]; exact dgN_R _ _
theorem pasH_R (h : NdOK n) (hl : MsR l) (s : Nat) : R64 (pasH n l s) := by
 unfold pasH
 split
 ·rename_i v e; exact frst_R hl e 0
 ·exact h.he s
theorem pasN_ok (h : NdOK n) (hl : MsR l) : NdOK (pasN n l) := by
 unfold pasN
 split
 ·exact h
 ·exact ⟨h.id, h.fr, h.tn, h.ax, h.rM, h.rJ, h.di, pasH_R h hl, h.ag, h.us, h.dg, h.vX, h.vA⟩
theorem pasM_ok (h : NdOK n) (hl : MsR l) : MsOK (pasM n l) := by
 unfold pasM
 split
 ·exact zeroM_ok
 ·refine ⟨(show R64 2 by unfold R64; decide), h.id, h.fr, fun i => gL_R (fun x hx => ?_) i, by simp⟩
  obtain ⟨q, _, rfl⟩ := List.mem_map.1 hx
  exact pasH_R h hl _
theorem judX_ok (h : NdOK n) (hl : MsR l) : R64 (judX n l) := by
 have hv : ∀ s, R64 (judV n l s) := fun s => tknR hl (h.he s)
 have : ∀ k, R64 (vtX (judV n l) n.rl.I k) := by
  intro k
  induction k with
  | zero => exact R64_zero
  | succ k ih =>
   show R64 (if _ then _ else _)
   split
   ·exact hv k
   ·exact ih
 exact this 4
theorem rn_R (h : NdOK n) {A : Nat → Bool} (hg : gdA n.rl = true) : ∀ k, k ≤ 4 → ∀ i, R64 ((rnN A n.rl k).1.M i) ∧ R64 ((rnN A n.rl k).1.J i) := fun k hk i => by
 rcases Nat.lt_or_ge i 4 with c | c
 ·have g := gdA_iff.1 (rn_good (A := A) hg k) i c
  cases e : (rnN A n.rl k).1.I i with
  | true => have := (gd_in e).1 g; unfold R64; omega
  | false => have := (gd_out e).1 g; unfold R64; omega
 ·obtain ⟨_, h2, h3⟩ := rn_rest (A := A) (r := n.rl) k (j := i) (by omega)
  rw [h2, h3]; exact ⟨h.rM i, h.rJ i⟩
theorem judR_R (h : NdOK n) (l : List Ms) (i : Nat) : R64 ((judR n l).M i) ∧ R64 ((judR n l).J i) := by
 unfold judR
 split
 ·unfold stR
  split
  ·exact ⟨R64_zero, R64_zero⟩
  ·split
   ·exact ⟨R64_zero, R64_zero⟩
   ·rename_i hg
    split
    ·exact rn_R h (by simpa using hg) 4 (Nat.le_refl _) i
    ·exact ⟨h.rM i, h.rJ i⟩
 ·exact ⟨h.rM i, h.rJ i⟩
theorem judN_ok (h : NdOK n) (hl : MsR l) : NdOK (judN n l) := by
 unfold judN
 split
 ·exact h
 ·exact ⟨h.id, h.fr, h.tn, h.ax, fun i => (judR_R h l i).1, fun i => (judR_R h l i).2, h.di, h.he, h.ag, h.us, h.dg, judX_ok h hl, by show ((List.range 4).map _).length ≤ _; rw [List.length_map, List.length_range]; decide⟩
theorem judM_ok (h : NdOK n) (_ : MsR l) : MsOK (judM n l) := by
 unfold judM
 split
 ·exact zeroM_ok
 ·exact ⟨(show R64 5 by unfold R64; decide), h.id, h.fr, fun i => gL_R (pck_mem h.ax) i, by rw [pck_len]; decide⟩
theorem cloN_ok (h : NdOK n) (hl : MsR l) : NdOK (cloN n l) := by
 unfold cloN
 split
 ·exact h
 ·split
  ·rename_i v e
   split
   ·have hv : ∀ i, R64 (v.getD i 0) := by
     unfold cloV at e
     split at e
     ·obtain ⟨p, _, hp⟩ := List.exists_of_findSome?_eq_some e
      unfold pairN at hp
      split at hp
      ·rename_i a b e1 e2
       split at hp
       ·cases hp; exact frst_R hl e1
       ·cases hp
      ·cases hp
     ·cases e
    have hm : ∀ (z : Int) (i : Nat), R64 (z / 8 ^ (3 - i) % 8) := fun z i => by unfold R64; omega
    exact ⟨h.id, h.fr, h.tn, fun a => ⟨hv _, hv _, hv _, hv _, hv _, hv _⟩, fun i => hm _ i, fun i => hm _ i, h.di, h.he, h.ag, h.us, h.dg, h.vX, h.vA⟩
   ·exact h
  ·exact h
end
theorem phN_ok {n : Nd} {l : List Ms} {fr : Int} {rd : Nat → Int} (k : Nat) (h : NdOK n) (hl : MsR l) (hf : R64 fr) (hr : ∀ a, R64 (rd a)) : NdOK (phN k n fr rd l) := by
 unfold phN
 split
 ·exact senN_ok h hf hr
 ·split
  ·exact relN_ok h hl
  ·split
   ·exact decN_ok h hl
   ·split
    ·exact pasN_ok h hl
    ·exact judN_ok h hl
theorem phM_ok {n : Nd} {l : List Ms} {fr : Int} {rd : Nat → Int} (k : Nat) (h : NdOK n) (hl : MsR l) (hf : R64 fr) (hr : ∀ a, R64 (rd a)) : MsOK (phM k n fr rd l) := by
 unfold phM
 split
 ·exact senM_ok h hf hr
 ·split
  ·exact relM_ok h hl
  ·split
   ·exact decM_ok h hl
   ·split
    ·exact pasM_ok h hl
    ·exact judM_ok h hl
structure IpOK (x : Ip) : Prop where
 rd : ∀ s a, R64 (x.rd s a)
 bad : R64 x.bad
 g : ∀ y, y ∈ x.ly → ∀ i, y.g i < 256
def ClsOK (c : Cl) : Prop := R64 c.fr ∧ ∀ i, i < 4 → NdOK (c.nd i)
theorem dcM_ok {n : Nat} {g : Nat → Nat} (hg : ∀ i, g i < 256) : ∀ m, m ∈ dcM n g → MsOK m := fun m hm => by
 unfold dcM at hm
 split at hm
 ·rename_i e
  obtain ⟨h1, h2, h3, h4, h5, h6, h7⟩ := dcE_right (dcB_iff.1 e)
  simp only [List.mem_cons, List.not_mem_nil, or_false] at hm
  subst hm
  have a1 := hg 1; have a2 := hg 2; have a3 := dR_lt hg
  refine ⟨?_, ?_, ?_, fun i => gL_R (fun x hx => ?_) i, ?_⟩
  ·show R64 ((g 1 : Nat) : Int); unfold R64; omega
  ·show R64 ((g 2 : Nat) : Int); unfold R64; omega
  ·show R64 ((dR g : Nat) : Int); unfold R64; omega
  ·obtain ⟨q, _, rfl⟩ := List.mem_map.1 hx
   exact dV_R64 hg q
  ·show ((List.range (g 7)).map (dV g)).length ≤ 24
   rw [List.length_map, List.length_range]; exact h5
 ·cases hm
theorem liM_ok {x : Ip} (h : IpOK x) {wo ph : Int} : ∀ m, m ∈ liM x.bad wo ph x.ly → MsOK m := fun m hm => by
 unfold liM at hm
 obtain ⟨y, hy, h2⟩ := List.mem_flatMap.1 hm
 split at h2
 ·exact dcM_ok (h.g y hy) m (List.mem_filter.1 h2).1
 ·cases h2
theorem bxM_ok {x : Ip} (h : IpOK x) {told : Nat → Ms} {wo ph : Nat} : ∀ k : Nat, (∀ j : Nat, j < k → (j : Int) ≠ x.bad → MsOK (told j)) → ∀ m, m ∈ bxM x told wo ph k → MsOK m
 | 0, _, m, hm => by cases hm
 | k + 1, ht, m, hm => by
  rcases List.mem_append.1 hm with c | c
  ·exact bxM_ok h k (fun j hj g => ht j (by omega) g) m c
  ·split at c
   ·cases c
   ·split at c
    ·exact liM_ok h m c
    ·rename_i g; rw [wrM_F c]; exact ht k (by omega) g
theorem MsOK.R' {l : List Ms} (h : ∀ m, m ∈ l → MsOK m) : MsR l := fun m hm => (h m hm).L
theorem wk_ok {x : Ip} {c : Cl} (hx : IpOK x) (hc : ClsOK c) : ∀ k, (∀ i, i < 4 → NdOK (ndK x c k i)) ∧ (∀ i, i < 4 → ∀ m, m ∈ bxK x c k i → MsOK m)
 | 0 => ⟨hc.2, fun i hi m hm => by cases hm⟩
 | k + 1 => by
  obtain ⟨h1, h2⟩ := wk_ok hx hc k
  refine ⟨fun i hi => ?_, fun i hi m hm => ?_⟩
  ·by_cases g : (i : Int) = x.bad
   ·show NdOK (if (i : Int) = x.bad then _ else _)
    rw [if_pos g]; exact h1 i hi
   ·rw [ndK_succ g]
    exact phN_ok k (h1 i hi) (MsOK.R' (h2 i hi)) hc.1 (hx.rd i)
  ·refine bxM_ok hx 4 (fun j hj g => ?_) m hm
   show MsOK (mgK x c k j)
   rw [mgK_at g]
   exact phM_ok k (h1 j hj) (MsOK.R' (h2 j hj)) hc.1 (hx.rd j)
theorem frN_ok {x : Ip} {c : Cl} (hx : IpOK x) (hc : ClsOK c) {i : Nat} (hi : i < 4) : NdOK (frN x c i) := by
 unfold frN
 split
 ·exact hc.2 i hi
 ·exact cloN_ok ((wk_ok hx hc 5).1 i hi) (MsOK.R' ((wk_ok hx hc 5).2 i hi))
theorem zeroN_ok : NdOK zeroN := ⟨R64_zero, R64_zero, ⟨R64_zero, R64_zero, R64_zero, R64_zero⟩, fun _ => ⟨R64_zero, R64_zero, R64_zero, R64_zero, R64_zero, R64_zero⟩, fun _ => R64_zero, fun _ => R64_zero, fun _ _ => R64_zero, fun _ => R64_zero, fun _ _ => R64_zero, fun _ => R64_zero, R64_zero, R64_zero, by show 0 ≤ _; decide⟩
theorem begN_okC {t : Tn} (h : t.Ok) {i : Nat} (hi : i < 4) : NdOK (begN (i : Nat) t) := by
 have e : R64 ((i : Nat) : Int) := by unfold R64; omega
 have b : St.beg0.Ok := ⟨R64_zero, R64_zero, by unfold R64; decide, R64_zero, by unfold R64; decide, R64_zero⟩
 unfold begN
 rw [if_neg (by rw [noN_at hi]; decide)]
 exact ⟨e, R64_zero, h, fun _ => b, fun _ => R64_zero, fun _ => R64_zero, fun _ _ => R64_zero, fun _ => R64_zero, fun _ _ => R64_zero, fun _ => R64_zero, R64_zero, R64_zero, by show 0 ≤ _; decide⟩
theorem begC_ok {t : Tn} (h : t.Ok) : ClsOK (begC t) := ⟨R64_zero, fun _ hi => begN_okC h hi⟩
theorem frC_ok {x : Ip} {c : Cl} (hx : IpOK x) (hc : ClsOK c) : ClsOK (frC x c) := by
 unfold frC
 split
 ·rename_i e
  have := (frE_ok e).2.1
  refine ⟨?_, fun i hi => frN_ok hx hc hi⟩
  show R64 (c.fr + 1)
  unfold R64; omega
 ·exact ⟨R64_zero, fun _ _ => zeroN_ok⟩
end Go.Proofs.YtdhblehhgpdpdaaGreat
namespace Go.Proofs.YtdhblehhgpdpdaaGreat
open Go.RowKit
end Go.Proofs.YtdhblehhgpdpdaaGreat
namespace Go.Proofs.YtdhblehhgpdpdaaGreat
open Go.RowKit
end Go.Proofs.YtdhblehhgpdpdaaGreat
namespace Go.Proofs.YtdhblehhgpdpdaaGreat
open Go.RowKit
end Go.Proofs.YtdhblehhgpdpdaaGreat
namespace Go.Proofs.YtdhblehhgpdpdaaGreat
open Go.RowKit
end Go.Proofs.YtdhblehhgpdpdaaGreat
namespace Go.Proofs.YtdhblehhgpdpdaaGreat
end Go.Proofs.YtdhblehhgpdpdaaGreat
