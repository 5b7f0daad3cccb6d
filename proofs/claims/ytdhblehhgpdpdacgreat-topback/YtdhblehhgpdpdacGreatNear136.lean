import Derived.Test.YtdhblehhgpdpdacGreatNear133
import Derived.Test.YtdhblehhgpdpdacGreatNear111
import Derived.Test.YtdhblehhgpdpdacGreatNear123
import Derived.Test.YtdhblehhgpdpdacGreatMemOK
import Derived.Test.YtdhblehhgpdpdacGreatNear51
namespace Go.Proofs.YtdhblehhgpdpdacGreat
open Go.ChangeShapes Go.WideShapes Go.ChangeAt Go.RowKit Go.Joins
set_option maxRecDepth 100000
instance : Inhabited Lj := ⟨⟨⟨0, 0, 0, fun _ => 0⟩, none, 0⟩⟩
instance : Inhabited Li := ⟨⟨fun _ _ => 0, 0, [], none, 0⟩⟩
theorem cellsLyN : Tryz.prog.cellsOf 35 = 3 := by kernel_rfl
theorem bytesLyN : Tryz.prog.bytesOf 35 = 40 := by kernel_rfl
theorem cellsIpN : Tryz.prog.cellsOf 31 = 14 := by kernel_rfl
theorem bytesIpN : Tryz.prog.bytesOf 31 = 128 := by kernel_rfl
theorem cellsU8N : Tryz.prog.cellsOf 33 = 1 := by kernel_rfl
theorem cellsLsN : Tryz.prog.cellsOf 29 = 1 := by kernel_rfl
section
variable {H : Type} {enc : TypeId × Value → H} {w : World} {base : Nat} {held : Bool}
theorem open_many {t e : TypeId} {s bytes : Nat} {α : Type} [Inhabited α] (F : α → Nat → Value) (R : α → Prop) (ht : Tryz.prog.underlying t = some (.slice e)) (hce : Tryz.prog.cellsOf e = s) (hbe : Tryz.prog.bytesOf e = bytes) (hs : 0 < s)
  (op : ∀ fuel cs x, DataW.trod enc Tryz.prog w base (fun _ => true) held fuel e cs = some x → (∀ n ∈ x.1.weights Tryz.prog e, n ≤ reachBytes) → ∃ c, cs.length = s ∧ (∀ j, j < s → cs[j]? = some (F c j)) ∧ R c)
  {fuel : Nat} {v : Value} {x : DataW H × List MemPlace} (h : DataW.trod enc Tryz.prog w base (fun _ => true) held fuel t [v] = some x) (hsz : ∀ n ∈ x.1.weights Tryz.prog t, n ≤ reachBytes) :
  ∃ (mo : Option Addr) (mc : Nat) (L : List α), v = .slice mo L.length mc ∧ RdS F s w mo L ∧ (∀ c, c ∈ L → R c) ∧ L.length * bytes ≤ reachBytes ∧ L.length ≤ mc := by
 rcases Go.Deep.open_slice ht h with ⟨hcs, _⟩ | ⟨a, len, c, m, n, D, Pl, hcs, _, hl, hm, hmm, ex, hx⟩
 ·simp at hcs
  exact ⟨none, 0, [], hcs, fun h => absurd h (by simp), fun _ h => absurd h (by simp), by show 0 * _ ≤ _; omega, Nat.le_refl _⟩
 ·simp at hcs
  subst hcs
  simp only [if_true] at hmm
  subst hmm
  have ex1 : x.1 = .slice ((List.range len).map D) ((List.range (m - len)).map fun j => D (len + j)) := congrArg Prod.fst ex
  have hw : ∀ i, i < len → ∀ k ∈ (D i).weights Tryz.prog e, k ≤ reachBytes := fun i hi k hk => hsz k (by
   rw [ex1]
   simp only [DataW.weights, ht]
   exact List.mem_cons_of_mem _ (List.mem_append.2 (Or.inl (weightsAll_memN (List.mem_map.2 ⟨i, List.mem_range.2 hi, rfl⟩) k hk))))
  have hb : m * bytes ≤ reachBytes := hsz _ (by
   rw [ex1]
   simp only [DataW.weights, ht, hbe]
   refine List.mem_cons.2 (Or.inl ?_)
   rw [List.length_map, List.length_map, List.length_range, List.length_range]
   congr 1
   omega)
  obtain ⟨G, hG⟩ := Go.Deep.choose_lt (α := α) (n := len) (p := fun i c => (∀ k, k < s → w.cell? ((a.add (i * s)).add k) = some (F c k)) ∧ R c) (fun i hi => by
   obtain ⟨cs', h1, h2⟩ := hx i (by omega)
   rw [hce] at h1
   obtain ⟨cc, e, h3, h4⟩ := op _ _ _ h2 (hw i hi)
   refine ⟨cc, fun k hk => ?_, h4⟩
   obtain ⟨_, _, hcc⟩ := World.cells?_some h1
   rw [hcc k hk, h3 k hk])
  have el : ((List.range len).map G).length = len := by simp
  have hat : ∀ i c, ((List.range len).map G)[i]? = some c → i < len ∧ c = G i := fun i c hi => by
   have hlt : i < len := by have := (List.getElem?_eq_some_iff.1 hi).1; rw [el] at this; exact this
   rw [List.getElem?_map, List.getElem?_range hlt] at hi
   exact ⟨hlt, (Option.some.inj hi).symm⟩
  refine ⟨some a, m, (List.range len).map G, by rw [el], fun hl0 => ?_, fun c hc => ?_, by rw [el]; exact Nat.le_trans (Nat.mul_le_mul_right _ hl) hb, by rw [el]; exact hl⟩
  ·rw [el] at hl0
   obtain ⟨b, o, spot⟩ := a
   have hn : spot = none := by
    have h0 : w.cell? (((⟨b, o, spot⟩ : Addr).add (0 * s)).add 0) = some (F (G 0) 0) := (hG 0 hl0).1 0 hs
    simpa [Addr.add] using World.cell?_spot h0
   subst hn
   refine ⟨b, o, rfl, fun i c hi k hk => ?_⟩
   obtain ⟨hlt, rfl⟩ := hat i c hi
   have := (hG i hlt).1 k hk
   rw [Addr.add_lit, Addr.add_lit] at this
   exact this
  ·obtain ⟨i, hi⟩ := List.getElem?_of_mem hc
   obtain ⟨hlt, rfl⟩ := hat i c hi
   exact (hG i hlt).2
theorem open_ljC (fuel : Nat) (cs : List Value) (x : DataW H × List MemPlace) (h : DataW.trod enc Tryz.prog w base (fun _ => true) held fuel 35 cs = some x) (hsz : ∀ n ∈ x.1.weights Tryz.prog 35, n ≤ reachBytes) :
  ∃ c : Lj, cs.length = 3 ∧ (∀ j, j < 3 → cs[j]? = some (ljF c j)) ∧ LbRd w c := by
 obtain ⟨xs, n, _, ex, hl, hlen, hf⟩ := DataW.trod_struct Tryz.underlying35 h
 rw [cellsLyN] at hl
 match cs, hl with
 | [c0, c1, c2], _ =>
  match xs, hlen with
  | [y0, y1, y2], _ =>
   have g0 : DataW.trod enc Tryz.prog w base (fun _ => true) held n 3 (List.take (Tryz.prog.cellsOf 3) [c0, c1, c2]) = some y0 := hf 0 _ rfl
   have g1 : DataW.trod enc Tryz.prog w base (fun _ => true) held n 3 (List.take (Tryz.prog.cellsOf 3) [c1, c2]) = some y1 := hf 1 _ rfl
   have g2 : DataW.trod enc Tryz.prog w base (fun _ => true) held n 33 (List.take (Tryz.prog.cellsOf 33) [c2]) = some y2 := hf 2 _ rfl
   rw [cellsIntN] at g0 g1
   rw [cellsU8N] at g2
   obtain ⟨a0, q0, _, w0⟩ := DataW.trod_int Tryz.underlying3 (show DataW.trod enc Tryz.prog w base (fun _ => true) held n 3 [c0] = some y0 from g0)
   obtain ⟨a1, q1, _, w1⟩ := DataW.trod_int Tryz.underlying3 (show DataW.trod enc Tryz.prog w base (fun _ => true) held n 3 [c1] = some y1 from g1)
   simp at q0 q1
   subst q0 q1
   have g2' : DataW.trod enc Tryz.prog w base (fun _ => true) held n 33 [c2] = some y2 := g2
   obtain ⟨ao, len, cap, g, rfl, ha⟩ := open_bytes g2' (fun k hk => hsz k (by
    rw [ex]
    simp only [DataW.weights, Tryz.underlying35, List.map, DataW.weightsEach]
    simp only [List.mem_append]
    exact Or.inr (Or.inr (Or.inl hk))))
   refine ⟨⟨⟨a0, a1, len, g⟩, ao, cap⟩, rfl, fun j hj => ?_, ha.1, ha.2.2.2, ha.2.1, ha.2.2.1⟩
   match j, hj with
   | 0, _ => rfl
   | 1, _ => rfl
   | 2, _ => rfl
theorem open_liC (fuel : Nat) (cs : List Value) (x : DataW H × List MemPlace) (h : DataW.trod enc Tryz.prog w base (fun _ => true) held fuel 31 cs = some x) (hsz : ∀ n ∈ x.1.weights Tryz.prog 31, n ≤ reachBytes) :
  ∃ c : Li, cs.length = 14 ∧ (∀ j, j < 14 → cs[j]? = some (inpF c j)) ∧ LiOK w c := by
 obtain ⟨xs, m, _, ex, hl, hlen, hx⟩ := DataW.trod_struct Tryz.underlying31 h
 have hl : cs.length = 14 := hl.trans cellsIpN
 have hlen : xs.length = 3 := hlen
 have p0 := flat_part (n := 12) Tryz.underlying31 (i := 0) rfl flat_i43 h
 have p1 := flat_part (n := 1) Tryz.underlying31 (i := 1) rfl flat_int h
 have h2 := hx 2 _ rfl
 rw [List.getElem?_eq_getElem (by omega)] at h2
 obtain ⟨y, ey⟩ : ∃ y, y = xs[2] := ⟨_, rfl⟩
 rw [← ey] at h2
 have h2' : DataW.trod enc Tryz.prog w base (fun _ => true) held m 29 ((cs.drop 13).take (Tryz.prog.cellsOf 29)) = some y := h2
 rw [cellsLsN] at h2'
 obtain ⟨c0, ec⟩ : ∃ c0, (cs.drop 13).take 1 = [c0] := by
  have : ((cs.drop 13).take 1).length = 1 := by rw [List.length_take, List.length_drop, hl]; rfl
  match hq : (cs.drop 13).take 1, this with
  | [c0], _ => exact ⟨c0, rfl⟩
 rw [ec] at h2'
 have hg : cs[13]? = some c0 := by rw [show (13 : Nat) = 13 + 0 from rfl, ← drop_take_get (n := 1) (by omega), ec]; rfl
 obtain ⟨lo, lc, LL, rfl, hr, hR, hb, hc⟩ := open_many ljF (LbRd w) Tryz.underlying29 cellsLyN bytesLyN (by omega) open_ljC h2' (fun n hn => hsz n (by
  rw [ex]
  simp only [DataW.weights, Tryz.underlying31]
  exact DataW.weights_mem_each (j := 2) (t := 29) (d := y.1) rfl (by rw [List.getElem?_map, List.getElem?_eq_getElem (by omega), ← ey]; rfl) n hn))
 have hk : ∀ j, j < 13 → CellK false (cs.getD j (.int .i64 0)) := fun j hj => by
  by_cases r0 : j < 12
  ·exact cells_of (o := 0) (K2 := fun _ => false) p0 (by omega) (by omega) (by omega) rfl
  ·exact cells_of (o := 12) (K2 := fun _ => false) p1 (by omega) (by omega) (by omega) rfl
 have hR64 : ∀ j, R64 (vI (cs.getD j (.int .i64 0))) := fun j => by
  by_cases hj : j < 13
  ·exact (hk j hj).R
  by_cases hj2 : j = 13
  ·rw [hj2, List.getD_eq_getElem?_getD, hg]; exact R64_nought
  ·rw [List.getD_eq_getElem?_getD, List.getElem?_eq_none (by omega)]; exact R64_nought
 have hat : ∀ j, j < 14 → cs[j]? = some (cs.getD j (.int .i64 0)) := fun j hj => by rw [List.getD_eq_getElem?_getD, List.getElem?_eq_getElem (by omega)]; rfl
 refine ⟨⟨fun s a => vI (cs.getD (s * 3 + a) (.int .i64 0)), vI (cs.getD 12 (.int .i64 0)), LL, lo, lc⟩, hl, fun j hj => ?_, ⟨⟨fun s a => hR64 _, hR64 _, fun y hy i => ?_⟩, ⟨hr, hR⟩, hc⟩⟩
 ·unfold inpF ipF
  dsimp only
  by_cases r0 : j < 12
  ·rw [if_pos r0, show j / 3 * 3 + j % 3 = j by omega, (hk j (by omega)).i]
   exact hat j hj
  by_cases r1 : j = 12
  ·rw [if_neg r0, if_pos r1, (hk 12 (by omega)).i, r1]
   exact hat 12 (by omega)
  ·rw [if_neg r0, if_neg r1, show j = 13 by omega]
   exact hg
 ·obtain ⟨c, hcm, rfl⟩ := List.mem_map.1 hy
  exact (hR c hcm).2.2.2 i
theorem open_inpsArg {r : Reach} {b0 : Nat} {v : Value} {d : DataW H} {p : List MemPlace} (hv : Value.okWide Tryz.prog w r b0 24 v) (h : DataW.Trod enc Tryz.prog w base (fun _ => true) held 24 v d p) (hsz : ∀ n ∈ d.weights Tryz.prog 24, n ≤ reachBytes) :
  ∃ (mo : Option Addr) (mc : Nat) (L : List Li), v = .slice mo L.length mc ∧ RdS inpF 14 w mo L ∧ (∀ c, c ∈ L → LiOK w c) ∧ L.length * 128 ≤ reachBytes ∧ L.length ≤ mc := by
 obtain ⟨ao, len, cap, rfl⟩ := okWide_slice Tryz.underlying24 hv
 obtain ⟨fuel, hf⟩ := h
 have hf' : DataW.trod enc Tryz.prog w base (fun _ => true) held fuel 24 [.slice ao len cap] = some (d, p) := hf
 exact open_many inpF (LiOK w) Tryz.underlying24 cellsIpN bytesIpN (by omega) open_liC hf' hsz
end
end Go.Proofs.YtdhblehhgpdpdacGreat
namespace Go.Proofs.YtdhblehhgpdpdacGreat
open Go.RowKit
def RlE (r s : Rl) : Prop := ∀ j, j < 4 → r.I j = s.I j ∧ r.M j = s.M j ∧ r.J j = s.J j
theorem RlE.symm {r s : Rl} (h : RlE r s) : RlE s r := fun j hj => ⟨(h j hj).1.symm, (h j hj).2.1.symm, (h j hj).2.2.symm⟩
theorem RlE.trans {r s t : Rl} (h : RlE r s) (h' : RlE s t) : RlE r t := fun j hj => ⟨(h j hj).1.trans (h' j hj).1, (h j hj).2.1.trans (h' j hj).2.1, (h j hj).2.2.trans (h' j hj).2.2⟩
theorem RlE.refl (r : Rl) : RlE r r := fun _ _ => ⟨rfl, rfl, rfl⟩
theorem insL_congr {b b' : Nat → Bool} {f f' : Nat → Int} : ∀ {k : Nat}, (∀ i, i < k → b i = b' i ∧ f i = f' i) → insL b f k = insL b' f' k
 | 0, _ => rfl
 | k + 1, h => by
  show insL b f k ++ _ = insL b' f' k ++ _
  rw [insL_congr (fun i hi => h i (by omega)), (h k (by omega)).1, (h k (by omega)).2]
theorem ctN8_congr {f g : Nat → Int} : ∀ {k : Nat}, (∀ i, i < k → f i = g i) → ctN8 f k = ctN8 g k
 | 0, _ => rfl
 | k + 1, h => by
  show wrap64 (wrap64 (8 * ctN8 f k) + f k) = wrap64 (wrap64 (8 * ctN8 g k) + g k)
  rw [ctN8_congr (fun i hi => h i (by omega)), h k (by omega)]
theorem pck_congr {ax bx : Nat → St} {r s : Rl} (h : ∀ a, a < 3 → ax a = bx a) (hr : RlE r s) : pck ax r = pck bx s := by
 unfold pck inN
 rw [h 0 (by omega), h 1 (by omega), h 2 (by omega), ctN8_congr (fun i hi => (hr i hi).2.1), ctN8_congr (fun i hi => (hr i hi).2.2), (hr 0 (by omega)).1, (hr 1 (by omega)).1, (hr 2 (by omega)).1, (hr 3 (by omega)).1]
theorem dgN_congr {ax bx : Nat → St} {r s : Rl} (h : ∀ a, a < 3 → ax a = bx a) (hr : RlE r s) : dgN ax r = dgN bx s := by
 have e : pckB ax r = pckB bx s := by
  funext i
  unfold pckB
  rw [pck_congr h hr]
 unfold dgN
 rw [e]
theorem stN_congr {A A' : Nat → Bool} {r s : Rl} {i : Nat} (hi : i < 4) (hA : A i = A' i) (h : RlE r s) : RlE (stN A i r) (stN A' i s) := by
 have h4 : cn r.I 4 = cn s.I 4 := cn_congr fun j hj => (h j hj).1
 have hu : ∀ (j : Nat) (α : Type) (f g : Nat → α) (y z : α), f j = g j → y = z → upM f i y j = upM g i z j := fun j α f g y z e1 e2 => by
  unfold upM; rw [e1, e2]
 intro j hj
 obtain ⟨a1, a2, a3⟩ := h j hj
 obtain ⟨b1, b2, b3⟩ := h i hi
 unfold stN
 rw [← hA, ← b1, ← b2, ← b3, ← h4]
 split
 ·split
  ·exact ⟨a1, hu j Int _ _ _ _ a2 rfl, a3⟩
  ·split
   ·exact ⟨hu j Bool _ _ _ _ a1 rfl, hu j Int _ _ _ _ a2 rfl, a3⟩
   ·exact ⟨a1, hu j Int _ _ _ _ a2 rfl, a3⟩
 ·split
  ·split
   ·exact ⟨hu j Bool _ _ _ _ a1 rfl, a2, hu j Int _ _ _ _ a3 rfl⟩
   ·exact ⟨a1, a2, hu j Int _ _ _ _ a3 rfl⟩
  ·exact ⟨a1, a2, hu j Int _ _ _ _ a3 rfl⟩
theorem rnN_congr {A A' : Nat → Bool} {r s : Rl} (hA : ∀ i, i < 4 → A i = A' i) (h : RlE r s) : ∀ k, k ≤ 4 → RlE (rnN A r k).1 (rnN A' s k).1
 | 0, _ => h
 | k + 1, hk => stN_congr (by omega) (hA k (by omega)) (rnN_congr hA h k (by omega))
theorem vote_three {v : Nat → Int} {b : Nat → Bool} {D bad : Int} (h : ∀ s : Nat, s < 4 → (s : Int) ≠ bad → v s = D ∧ b s = true) : vtX v b 4 = D ∧ vtS v b D = true ∧ 0 < ti b 4 := by
 have p : ∀ s : Nat, s < 4 → (s : Int) ≠ bad → (if b s = true ∧ v s = D then 1 else 0) = 1 := fun s hs g => if_pos ⟨(h s hs g).2, (h s hs g).1⟩
 have k3 : 3 ≤ vk b v D 4 := by
  have p0 := p 0 (by omega); have p1 := p 1 (by omega); have p2 := p 2 (by omega); have p3 := p 3 (by omega)
  show 3 ≤ (((0 + if b 0 = true ∧ v 0 = D then 1 else 0) + if b 1 = true ∧ v 1 = D then 1 else 0) + if b 2 = true ∧ v 2 = D then 1 else 0) + if b 3 = true ∧ v 3 = D then 1 else 0
  generalize (if b 0 = true ∧ v 0 = D then 1 else 0) = y0 at *
  generalize (if b 1 = true ∧ v 1 = D then 1 else 0) = y1 at *
  generalize (if b 2 = true ∧ v 2 = D then 1 else 0) = y2 at *
  generalize (if b 3 = true ∧ v 3 = D then 1 else 0) = y3 at *
  omega
 have k1 : ∀ u, u ≠ D → vk b v u 4 ≤ 1 := fun u hu => by
  have q : ∀ s : Nat, s < 4 → (s : Int) ≠ bad → (if b s = true ∧ v s = u then 1 else 0) = 0 := fun s hs g => if_neg (by rintro ⟨_, e⟩; exact hu (e.symm.trans (h s hs g).1))
  have l : ∀ s : Nat, (if b s = true ∧ v s = u then 1 else 0) ≤ 1 := fun s => by split <;> omega
  have p0 := q 0 (by omega); have p1 := q 1 (by omega); have p2 := q 2 (by omega); have p3 := q 3 (by omega)
  have l0 := l 0; have l1 := l 1; have l2 := l 2; have l3 := l 3
  show (((0 + if b 0 = true ∧ v 0 = u then 1 else 0) + if b 1 = true ∧ v 1 = u then 1 else 0) + if b 2 = true ∧ v 2 = u then 1 else 0) + (if b 3 = true ∧ v 3 = u then 1 else 0) ≤ 1
  generalize (if b 0 = true ∧ v 0 = u then 1 else 0) = y0 at *
  generalize (if b 1 = true ∧ v 1 = u then 1 else 0) = y1 at *
  generalize (if b 2 = true ∧ v 2 = u then 1 else 0) = y2 at *
  generalize (if b 3 = true ∧ v 3 = u then 1 else 0) = y3 at *
  omega
 have all : ∀ i, vk b v (v i) 4 ≤ vk b v D 4 := fun i => by
  by_cases e : v i = D
  ·rw [e]; exact Nat.le_refl _
  ·have := k1 _ e; omega
 have hV : IsV v b 4 D := by
  by_cases c : b 0 = true ∧ v 0 = D
  ·exact Or.inr ⟨0, by omega, c.1, c.2.symm, fun i _ _ => all i, fun i hi => by omega⟩
  ·have g0 : (0 : Int) = bad := by
    by_cases g : ((0 : Nat) : Int) = bad
    ·exact g
    ·exact absurd ⟨(h 0 (by omega) g).2, (h 0 (by omega) g).1⟩ c
   have h1 := h 1 (by omega) (by omega)
   refine Or.inr ⟨1, by omega, h1.2, h1.1.symm, fun i _ _ => all i, fun i hi hb => ?_⟩
   obtain rfl : i = 0 := by omega
   have : v 0 ≠ D := fun e => c ⟨hb, e⟩
   have := k1 _ this; omega
 have t1 := vk_le_tt b v D 4
 have t2 := ti_le b 4
 refine ⟨(vtX_at hV).symm, ?_, by omega⟩
 unfold vtS
 exact decide_eq_true ⟨by omega, by omega⟩
section
variable {x : Ip} {c : Cl}
theorem n5_tn (hE : frE x c = 0) {i : Nat} (hi : i < 4) (g : (i : Int) ≠ x.bad) : (ndK x c 5 i).tn = (c.nd i).tn := by rw [jud_at hE hi g, pas_at hE hi g, dec_at hE hi g, rel_atC hE hi g, sen_at hE hi g]
theorem n5_us (hE : frE x c = 0) {i : Nat} (hi : i < 4) (g : (i : Int) ≠ x.bad) : (ndK x c 5 i).us = (ndK x c 3 i).us := by rw [jud_at hE hi g, pas_at hE hi g]
theorem n5_ax (hE : frE x c = 0) {i : Nat} (hi : i < 4) (g : (i : Int) ≠ x.bad) : (ndK x c 5 i).ax = (ndK x c 3 i).ax := by rw [jud_at hE hi g, pas_at hE hi g]
theorem n5_dg (hE : frE x c = 0) {i : Nat} (hi : i < 4) (g : (i : Int) ≠ x.bad) : (ndK x c 5 i).dg = (ndK x c 3 i).dg := by rw [jud_at hE hi g, pas_at hE hi g]
theorem n2_rl (hE : frE x c = 0) {i : Nat} (hi : i < 4) (g : (i : Int) ≠ x.bad) : (ndK x c 2 i).rl = (c.nd i).rl := by rw [rel_atC hE hi g, sen_at hE hi g]
theorem n2_ax (hE : frE x c = 0) {i : Nat} (hi : i < 4) (g : (i : Int) ≠ x.bad) : (ndK x c 2 i).ax = (c.nd i).ax := by rw [rel_atC hE hi g, sen_at hE hi g]
theorem n2_tn (hE : frE x c = 0) {i : Nat} (hi : i < 4) (g : (i : Int) ≠ x.bad) : (ndK x c 2 i).tn = (c.nd i).tn := by rw [rel_atC hE hi g, sen_at hE hi g]
theorem n4_rl (hE : frE x c = 0) {i : Nat} (hi : i < 4) (g : (i : Int) ≠ x.bad) : (ndK x c 4 i).rl = (c.nd i).rl := by rw [pas_at hE hi g, dec_at hE hi g]; exact n2_rl hE hi g
theorem us_at (hE : frE x c = 0) {i : Nat} (hi : i < 4) (g : (i : Int) ≠ x.bad) (a : Nat) : (ndK x c 3 i).us a = midL (insL (c.nd i).rl.I (fun s => (ndK x c 3 i).ag s a) 4) := by
 rw [dec_at hE hi g, ← n2_rl hE hi g]; rfl
theorem ax_at (hE : frE x c = 0) {i : Nat} (hi : i < 4) (g : (i : Int) ≠ x.bad) (a : Nat) : (ndK x c 3 i).ax a = stepS ((c.nd i).ax a) (c.nd i).tn ((ndK x c 3 i).us a) := by
 rw [dec_at hE hi g, ← n2_ax hE hi g, ← n2_tn hE hi g]; rfl
theorem dg_at (hE : frE x c = 0) {i : Nat} (hi : i < 4) (g : (i : Int) ≠ x.bad) : (ndK x c 3 i).dg = dgN (ndK x c 3 i).ax (c.nd i).rl := by
 rw [dec_at hE hi g, ← n2_rl hE hi g]; rfl
theorem us_same (hE : frE x c = 0) {i k : Nat} (hi : i < 4) (hk : k < 4) (gi : (i : Int) ≠ x.bad) (gk : (k : Int) ≠ x.bad) (hr : RlE (c.nd i).rl (c.nd k).rl) {a : Nat} (ha : a < 3) : (ndK x c 3 i).us a = (ndK x c 3 k).us a := by
 rw [us_at hE hi gi, us_at hE hk gk, insL_congr fun s hs => ⟨(hr s hs).1, ag_same hE hi hk hs gi gk ha⟩]
theorem ax_same (hE : frE x c = 0) {i k : Nat} (hi : i < 4) (hk : k < 4) (gi : (i : Int) ≠ x.bad) (gk : (k : Int) ≠ x.bad) (ht : (c.nd i).tn = (c.nd k).tn) (ha : ∀ a, a < 3 → (c.nd i).ax a = (c.nd k).ax a) (hr : RlE (c.nd i).rl (c.nd k).rl) {a : Nat} (h3 : a < 3) : (ndK x c 3 i).ax a = (ndK x c 3 k).ax a := by
 rw [ax_at hE hi gi, ax_at hE hk gk, us_same hE hi hk gi gk hr h3, ht, ha a h3]
theorem dg_same (hE : frE x c = 0) {i k : Nat} (hi : i < 4) (hk : k < 4) (gi : (i : Int) ≠ x.bad) (gk : (k : Int) ≠ x.bad) (ht : (c.nd i).tn = (c.nd k).tn) (ha : ∀ a, a < 3 → (c.nd i).ax a = (c.nd k).ax a) (hr : RlE (c.nd i).rl (c.nd k).rl) : (ndK x c 3 i).dg = (ndK x c 3 k).dg := by
 rw [dg_at hE hi gi, dg_at hE hk gk, dgN_congr (fun a h3 => ax_same hE hi hk gi gk ht ha hr h3) hr]
theorem jud_three (hE : frE x c = 0) {i : Nat} {D bad : Int} (hi : i < 4) (gi : (i : Int) ≠ x.bad) (h : ∀ s : Nat, s < 4 → (s : Int) ≠ bad → vtK x c i s = D ∧ (c.nd i).rl.I s = true) :
  (ndK x c 5 i).vX = D ∧ (ndK x c 5 i).vS = true ∧ (∀ s, judA (ndK x c 4 i) (bxK x c 4 i) s = decide (vtK x c i s = D)) := by
 obtain ⟨h1, h2, h3⟩ := vote_three (v := vtK x c i) h
 have e : judX (ndK x c 4 i) (bxK x c 4 i) = D := by
  unfold judX; rw [n4_rl hE hi gi]; exact h1
 refine ⟨?_, ?_, fun s => ?_⟩
 ·rw [jud_at hE hi gi]; exact e
 ·rw [jud_at hE hi gi]
  show judS _ _ = true
  unfold judS; rw [e, n4_rl hE hi gi]; exact h2
 ·unfold judA vtA
  rw [e, n4_rl hE hi gi]
  exact decide_eq_decide.2 ⟨fun q => q.2, fun q => ⟨h3, q⟩⟩
theorem rl_three (hE : frE x c = 0) {i : Nat} {D bad : Int} (hi : i < 4) (gi : (i : Int) ≠ x.bad) (hg : gdA (c.nd i).rl = true) (h : ∀ s : Nat, s < 4 → (s : Int) ≠ bad → vtK x c i s = D ∧ (c.nd i).rl.I s = true) :
  (ndK x c 5 i).rl = (rnN (fun s => decide (vtK x c i s = D)) (c.nd i).rl 4).1 := by
 obtain ⟨_, h2, h3⟩ := jud_three hE hi gi h
 have e2 : judS (ndK x c 4 i) (bxK x c 4 i) = true := by rw [jud_at hE hi gi] at h2; exact h2
 have e3 : judA (ndK x c 4 i) (bxK x c 4 i) = fun s => decide (vtK x c i s = D) := funext h3
 rw [jud_at hE hi gi]
 show judR _ _ = _
 unfold judR
 rw [e2, e3, n4_rl hE hi gi, stR_strong hg, if_pos rfl]
theorem frN_still (hE : frE x c = 0) {i : Nat} (hi : i < 4) (gi : (i : Int) ≠ x.bad) (h : (ndK x c 5 i).vX = (ndK x c 5 i).dg) : frN x c i = ndK x c 5 i := by
 unfold frN
 rw [if_neg gi]
 show cloN (ndK x c 5 i) (bxK x c 5 i) = _
 unfold cloN cloV
 rw [if_neg (by rw [id5 hE hi gi, noN_at hi]; decide), if_neg (fun q => q.2 h)]
end
theorem frN_bad {x : Ip} {c : Cl} {i : Nat} (h : (i : Int) = x.bad) : frN x c i = c.nd i := if_pos h
structure Inv (t : Tn) (bad : Int) (c : Cl) : Prop where
 id : ∀ i, i < 4 → (c.nd i).id = (i : Nat)
 tn : ∀ i, i < 4 → (c.nd i).tn = t
 ax : ∀ i k : Nat, i < 4 → k < 4 → (i : Int) ≠ bad → (k : Int) ≠ bad → ∀ a, a < 3 → (c.nd i).ax a = (c.nd k).ax a
 rl : ∀ i k : Nat, i < 4 → k < 4 → (i : Int) ≠ bad → (k : Int) ≠ bad → RlE (c.nd i).rl (c.nd k).rl
 gd : ∀ i : Nat, i < 4 → (i : Int) ≠ bad → gdA (c.nd i).rl = true
 on : ∀ i s : Nat, i < 4 → s < 4 → (i : Int) ≠ bad → (s : Int) ≠ bad → (c.nd i).rl.I s = true ∧ (c.nd i).rl.M s = 0
theorem begN_at (t : Tn) {i : Nat} (hi : i < 4) : begN (i : Nat) t = { zeroN with id := (i : Nat), tn := t, ax := fun _ => St.beg0, rl := beginR } := by
 unfold begN; rw [if_neg (by rw [noN_at hi]; decide)]
theorem begC_inv (t : Tn) (bad : Int) : Inv t bad (begC t) where
 id i hi := by show (begN (i : Nat) t).id = _; rw [begN_at t hi]
 tn i hi := by show (begN (i : Nat) t).tn = _; rw [begN_at t hi]
 ax i k hi hk _ _ a _ := by show (begN (i : Nat) t).ax a = (begN (k : Nat) t).ax a; rw [begN_at t hi, begN_at t hk]
 rl i k hi hk _ _ := by show RlE (begN (i : Nat) t).rl (begN (k : Nat) t).rl; rw [begN_at t hi, begN_at t hk]; exact RlE.refl _
 gd i hi _ := by show gdA (begN (i : Nat) t).rl = true; rw [begN_at t hi]; rfl
 on i s hi _ _ _ := by show (begN (i : Nat) t).rl.I s = true ∧ (begN (i : Nat) t).rl.M s = 0; rw [begN_at t hi]; exact ⟨rfl, rfl⟩
section
variable {t : Tn} {bad : Int} {x : Ip} {c : Cl}
theorem dg_all (h : Inv t bad c) (hb : x.bad = bad) (hE : frE x c = 0) {i k : Nat} (hi : i < 4) (hk : k < 4) (gi : (i : Int) ≠ bad) (gk : (k : Int) ≠ bad) : (ndK x c 3 i).dg = (ndK x c 3 k).dg :=
 dg_same hE hi hk (by rw [hb]; exact gi) (by rw [hb]; exact gk) ((h.tn i hi).trans (h.tn k hk).symm) (h.ax i k hi hk gi gk) (h.rl i k hi hk gi gk)
theorem vt_all (h : Inv t bad c) (hb : x.bad = bad) (hE : frE x c = 0) {i : Nat} (hi : i < 4) (gi : (i : Int) ≠ bad) : ∀ s : Nat, s < 4 → (s : Int) ≠ bad → vtK x c i s = (ndK x c 3 i).dg ∧ (c.nd i).rl.I s = true := fun s hs gs =>
 ⟨(vt_good hE hi hs (by rw [hb]; exact gi) (by rw [hb]; exact gs)).trans (dg_all h hb hE hs hi gs gi), (h.on i s hi hs gi gs).1⟩
theorem vX_good (h : Inv t bad c) (hb : x.bad = bad) (hE : frE x c = 0) {i : Nat} (hi : i < 4) (gi : (i : Int) ≠ bad) : (ndK x c 5 i).vX = (ndK x c 5 i).dg := by
 rw [n5_dg hE hi (by rw [hb]; exact gi)]
 exact (jud_three hE hi (by rw [hb]; exact gi) (vt_all h hb hE hi gi)).1
theorem fr_good (h : Inv t bad c) (hb : x.bad = bad) (hE : frE x c = 0) {i : Nat} (hi : i < 4) (gi : (i : Int) ≠ bad) : frN x c i = ndK x c 5 i := frN_still hE hi (by rw [hb]; exact gi) (vX_good h hb hE hi gi)
theorem rl_good (h : Inv t bad c) (hb : x.bad = bad) (hE : frE x c = 0) {i : Nat} (hi : i < 4) (gi : (i : Int) ≠ bad) : (ndK x c 5 i).rl = (rnN (fun s => decide (vtK x c i s = (ndK x c 3 i).dg)) (c.nd i).rl 4).1 := rl_three hE hi (by rw [hb]; exact gi) (h.gd i hi gi) (vt_all h hb hE hi gi)
theorem vt_like (h : Inv t bad c) (hb : x.bad = bad) (hE : frE x c = 0) {i k s : Nat} (hi : i < 4) (hk : k < 4) (hs : s < 4) (gi : (i : Int) ≠ bad) (gk : (k : Int) ≠ bad) : decide (vtK x c i s = (ndK x c 3 i).dg) = decide (vtK x c k s = (ndK x c 3 k).dg) := by
 rw [vt_same hE hi hk hs (by rw [hb]; exact gi) (by rw [hb]; exact gk), dg_all h hb hE hi hk gi gk]
theorem inv_step (h : Inv t bad c) (hb : x.bad = bad) (hE : frE x c = 0) : Inv t bad ⟨c.fr + 1, frN x c⟩ where
 id i hi := by
  show (frN x c i).id = _
  by_cases g : (i : Int) = bad
  ·rw [frN_bad (by rw [hb]; exact g)]; exact h.id i hi
  ·rw [fr_good h hb hE hi g]; exact id5 hE hi (by rw [hb]; exact g)
 tn i hi := by
  show (frN x c i).tn = _
  by_cases g : (i : Int) = bad
  ·rw [frN_bad (by rw [hb]; exact g)]; exact h.tn i hi
  ·rw [fr_good h hb hE hi g, n5_tn hE hi (by rw [hb]; exact g)]; exact h.tn i hi
 ax i k hi hk gi gk a ha := by
  show (frN x c i).ax a = (frN x c k).ax a
  rw [fr_good h hb hE hi gi, fr_good h hb hE hk gk, n5_ax hE hi (by rw [hb]; exact gi), n5_ax hE hk (by rw [hb]; exact gk)]
  exact ax_same hE hi hk (by rw [hb]; exact gi) (by rw [hb]; exact gk) ((h.tn i hi).trans (h.tn k hk).symm) (h.ax i k hi hk gi gk) (h.rl i k hi hk gi gk) ha
 rl i k hi hk gi gk := by
  show RlE (frN x c i).rl (frN x c k).rl
  rw [fr_good h hb hE hi gi, fr_good h hb hE hk gk, rl_good h hb hE hi gi, rl_good h hb hE hk gk]
  exact rnN_congr (fun s hs => vt_like h hb hE hi hk hs gi gk) (h.rl i k hi hk gi gk) 4 (Nat.le_refl _)
 gd i hi gi := by
  show gdA (frN x c i).rl = true
  rw [fr_good h hb hE hi gi, rl_good h hb hE hi gi]
  exact rn_good (h.gd i hi gi) 4
 on i s hi hs gi gs := by
  show (frN x c i).rl.I s = true ∧ (frN x c i).rl.M s = 0
  rw [fr_good h hb hE hi gi, rl_good h hb hE hi gi]
  obtain ⟨a, b⟩ := h.on i s hi hs gi gs
  have := rn_stays (A := fun s => decide (vtK x c i s = (ndK x c 3 i).dg)) a b (decide_eq_true ((vt_all h hb hE hi gi) s hs gs).1) 4
  exact ⟨this.1, this.2.1⟩
end
end Go.Proofs.YtdhblehhgpdpdacGreat
namespace Go.Proofs.YtdhblehhgpdpdacGreat
open Go.RowKit
theorem midL_in {f : Nat → Int} {n : Nat} {lo hi : Int} (h1 : 1 ≤ n) (h2 : n ≤ 64) (hl : cl f n lo ≤ (n - 1) / 3) (hh : n - 1 - (n - 1) / 3 < cl f n hi + ce f n hi) : lo ≤ midL (lsN f n) ∧ midL (lsN f n) ≤ hi := by
 obtain ⟨m, hm⟩ := mid_ex f n h1
 rw [← midL_at h1 h2 hm]
 obtain ⟨a, b, ha, hb, rfl⟩ := hm
 have k1 := rk_ge ha hl
 have k2 := rk_le hb hh
 have k3 := rk_mono ha hb (by omega)
 omega
def skI (b i : Nat) : Nat := if i < b then i else i + 1
theorem insL_all {b : Nat → Bool} {f : Nat → Int} (h : ∀ s, s < 4 → b s = true) : insL b f 4 = lsN f 4 := by
 show (((([] ++ _) ++ _) ++ _) ++ _) = _
 rw [h 0 (by omega), h 1 (by omega), h 2 (by omega), h 3 (by omega)]
 rfl
theorem insL_but {b : Nat → Bool} {f : Nat → Int} {q : Nat} (hq : q < 4) (h0 : b q = false) (h : ∀ s, s < 4 → s ≠ q → b s = true) : insL b f 4 = lsN (fun i => f (skI q i)) 3 := by
 show (((([] ++ _) ++ _) ++ _) ++ _) = _
 rcases four hq with rfl | rfl | rfl | rfl
 ·rw [h0, h 1 (by omega) (by omega), h 2 (by omega) (by omega), h 3 (by omega) (by omega)]; rfl
 ·rw [h0, h 0 (by omega) (by omega), h 2 (by omega) (by omega), h 3 (by omega) (by omega)]; rfl
 ·rw [h0, h 0 (by omega) (by omega), h 1 (by omega) (by omega), h 3 (by omega) (by omega)]; rfl
 ·rw [h0, h 0 (by omega) (by omega), h 1 (by omega) (by omega), h 2 (by omega) (by omega)]; rfl
theorem ind_if (p : Prop) [Decidable p] : (p → ind p = 1) ∧ (¬ p → ind p = 0) := ⟨ind_yes, ind_no⟩
theorem mid_good {b : Nat → Bool} {f : Nat → Int} {bad lo hi : Int} (h : ∀ s : Nat, s < 4 → (s : Int) ≠ bad → b s = true ∧ lo ≤ f s ∧ f s ≤ hi) : lo ≤ midL (insL b f 4) ∧ midL (insL b f 4) ≤ hi := by
 by_cases ha : ∀ s, s < 4 → b s = true
 ·rw [insL_all ha]
  have h0 := h 0 (by omega); have h1 := h 1 (by omega); have h2 := h 2 (by omega); have h3 := h 3 (by omega)
  refine midL_in (by omega) (by omega) ?_ ?_
  ·rw [cl4]
   have i0 := ind_if (f 0 < lo); have i1 := ind_if (f 1 < lo); have i2 := ind_if (f 2 < lo); have i3 := ind_if (f 3 < lo)
   have j0 := ind_le (f 0 < lo); have j1 := ind_le (f 1 < lo); have j2 := ind_le (f 2 < lo); have j3 := ind_le (f 3 < lo)
   generalize ind (f 0 < lo) = y0 at *
   generalize ind (f 1 < lo) = y1 at *
   generalize ind (f 2 < lo) = y2 at *
   generalize ind (f 3 < lo) = y3 at *
   by_cases c0 : ((0 : Nat) : Int) = bad
   ·have := i1.2 (by have := (h1 (by omega)).2; omega); have := i2.2 (by have := (h2 (by omega)).2; omega); have := i3.2 (by have := (h3 (by omega)).2; omega); omega
   ·have := i0.2 (by have := (h0 c0).2; omega)
    by_cases c1 : ((1 : Nat) : Int) = bad
    ·have := i2.2 (by have := (h2 (by omega)).2; omega); have := i3.2 (by have := (h3 (by omega)).2; omega); omega
    ·have := i1.2 (by have := (h1 c1).2; omega)
     by_cases c2 : ((2 : Nat) : Int) = bad
     ·have := i3.2 (by have := (h3 (by omega)).2; omega); omega
     ·have := i2.2 (by have := (h2 c2).2; omega); omega
  ·rw [cle4]
   have i0 := ind_if (f 0 ≤ hi); have i1 := ind_if (f 1 ≤ hi); have i2 := ind_if (f 2 ≤ hi); have i3 := ind_if (f 3 ≤ hi)
   generalize ind (f 0 ≤ hi) = y0 at *
   generalize ind (f 1 ≤ hi) = y1 at *
   generalize ind (f 2 ≤ hi) = y2 at *
   generalize ind (f 3 ≤ hi) = y3 at *
   by_cases c0 : ((0 : Nat) : Int) = bad
   ·have := i1.1 (h1 (by omega)).2.2; have := i2.1 (h2 (by omega)).2.2; have := i3.1 (h3 (by omega)).2.2; omega
   ·have := i0.1 (h0 c0).2.2
    by_cases c1 : ((1 : Nat) : Int) = bad
    ·have := i2.1 (h2 (by omega)).2.2; have := i3.1 (h3 (by omega)).2.2; omega
    ·have := i1.1 (h1 c1).2.2
     by_cases c2 : ((2 : Nat) : Int) = bad
     ·have := i3.1 (h3 (by omega)).2.2; omega
     ·have := i2.1 (h2 c2).2.2; omega
 ·obtain ⟨q, hq, h0⟩ : ∃ q, q < 4 ∧ b q = false := by
   by_cases b0 : b 0 = true
   ·by_cases b1 : b 1 = true
    ·by_cases b2 : b 2 = true
     ·by_cases b3 : b 3 = true
      ·exact absurd (fun s hs => by rcases four hs with rfl | rfl | rfl | rfl <;> assumption) ha
      ·exact ⟨3, by omega, by simpa using b3⟩
     ·exact ⟨2, by omega, by simpa using b2⟩
    ·exact ⟨1, by omega, by simpa using b1⟩
   ·exact ⟨0, by omega, by simpa using b0⟩
  have hqb : (q : Int) = bad := by
   by_cases e : (q : Int) = bad
   ·exact e
   ·rw [(h q hq e).1] at h0; cases h0
  rw [insL_but hq h0 (fun s hs hn => (h s hs (by omega)).1)]
  obtain ⟨m, hm⟩ := mid_ex (fun i => f (skI q i)) 3 (by omega)
  rw [← midL_at (by omega) (by omega) hm]
  refine mid_within hm fun i hi => ?_
  have : skI q i < 4 ∧ skI q i ≠ q := by unfold skI; split <;> omega
  exact (h _ this.1 (by omega)).2
section
variable {t : Tn} {bad : Int} {x : Ip} {c : Cl}
theorem us_within (h : Inv t bad c) (hb : x.bad = bad) (hE : frE x c = 0) {i a : Nat} (hi : i < 4) (gi : (i : Int) ≠ bad) (ha : a < 3) {lo hi' : Int} (hr : ∀ s : Nat, s < 4 → (s : Int) ≠ bad → lo ≤ x.rd s a ∧ x.rd s a ≤ hi') : lo ≤ (frN x c i).us a ∧ (frN x c i).us a ≤ hi' := by
 have gi' : (i : Int) ≠ x.bad := by rw [hb]; exact gi
 rw [fr_good h hb hE hi gi, n5_us hE hi gi', us_at hE hi gi']
 refine mid_good (bad := bad) fun s hs gs => ?_
 rw [ag_good hE hi hs gi' (by rw [hb]; exact gs) ha]
 exact ⟨(h.on i s hi hs gi gs).1, hr s hs gs⟩
theorem ax_follow (h : Inv t bad c) (hb : x.bad = bad) (hE : frE x c = 0) {i a : Nat} (hi : i < 4) (gi : (i : Int) ≠ bad) : (frN x c i).ax a = stepS ((c.nd i).ax a) t ((frN x c i).us a) := by
 have gi' : (i : Int) ≠ x.bad := by rw [hb]; exact gi
 rw [fr_good h hb hE hi gi, n5_ax hE hi gi', n5_us hE hi gi', ax_at hE hi gi', h.tn i hi]
end
theorem rn_at {A : Nat → Bool} {r : Rl} {b : Nat} : ∀ k, b < k → (rnN A r k).1.I b = (stN A b (rnN A r b).1).I b ∧ (rnN A r k).1.M b = (stN A b (rnN A r b).1).M b ∧ (rnN A r k).1.J b = (stN A b (rnN A r b).1).J b
 | 0, h => by omega
 | k + 1, h => by
  by_cases e : b = k
  ·subst e; exact ⟨rfl, rfl, rfl⟩
  ·obtain ⟨h1, h2, h3⟩ := rn_at (A := A) (r := r) (b := b) k (by omega)
   obtain ⟨g1, g2, g3⟩ := st_other (A := A) (i := k) (r := (rnN A r k).1) (j := b) e
   exact ⟨g1.trans h1, g2.trans h2, g3.trans h3⟩
section
variable {x : Ip} {c : Cl}
end
section
variable {n : Nd} {l m : List Ms}
end
end Go.Proofs.YtdhblehhgpdpdacGreat
namespace Go.Proofs.YtdhblehhgpdpdacGreat
open Go.RowKit
theorem unA_pck (ax : Nat → St) (r : Rl) : ∀ a, a < 3 → unA (pck ax r) a = ax a := by
 have e : ∀ s : St, (⟨s.X, s.V, s.P00, s.P01, s.P11, decide ((0 : Int) < if s.B then 1 else 0), s.M⟩ : St) = s := by
  rintro ⟨_, _, _, _, _, B, _⟩
  cases B <;> rfl
 intro a ha
 have : a = 0 ∨ a = 1 ∨ a = 2 := by omega
 rcases this with rfl | rfl | rfl
 ·exact e (ax 0)
 ·exact e (ax 1)
 ·exact e (ax 2)
theorem inN_bit (b : Nat → Bool) : 0 ≤ inN b ∧ inN b ≤ 15 ∧ ∀ i, i < 4 → decide (inN b / 2 ^ i % 2 = 1) = b i := by
 unfold inN
 cases h0 : b 0 <;> cases h1 : b 1 <;> cases h2 : b 2 <;> cases h3 : b 3 <;> refine ⟨by decide, by decide, fun i hi => ?_⟩ <;> rcases four hi with rfl | rfl | rfl | rfl <;> simp_all
theorem ctN8_num {f : Nat → Int} (h : ∀ i, i < 4 → 0 ≤ f i ∧ f i ≤ 2) : 0 ≤ ctN8 f 4 ∧ ctN8 f 4 ≤ 4095 ∧ ∀ i, i < 4 → ctN8 f 4 / 8 ^ (3 - i) % 8 = f i := by
 have h0 := h 0 (by omega); have h1 := h 1 (by omega); have h2 := h 2 (by omega); have h3 := h 3 (by omega)
 have w : ∀ z : Int, 0 ≤ z → z ≤ 100000 → wrap64 z = z := fun z a b => by unfold wrap64; omega
 have e : ctN8 f 4 = ((f 0 * 8 + f 1) * 8 + f 2) * 8 + f 3 := by
  show wrap64 (wrap64 (8 * wrap64 (wrap64 (8 * wrap64 (wrap64 (8 * wrap64 (wrap64 (8 * 0) + f 0)) + f 1)) + f 2)) + f 3) = _
  rw [w (8 * 0) (by omega) (by omega), w (8 * 0 + f 0) (by omega) (by omega), w (8 * (8 * 0 + f 0)) (by omega) (by omega), w (8 * (8 * 0 + f 0) + f 1) (by omega) (by omega), w (8 * (8 * (8 * 0 + f 0) + f 1)) (by omega) (by omega),
   w (8 * (8 * (8 * 0 + f 0) + f 1) + f 2) (by omega) (by omega), w (8 * (8 * (8 * (8 * 0 + f 0) + f 1) + f 2)) (by omega) (by omega), w (8 * (8 * (8 * (8 * 0 + f 0) + f 1) + f 2) + f 3) (by omega) (by omega)]
  omega
 rw [e]
 refine ⟨by omega, by omega, fun i hi => ?_⟩
 rcases four hi with rfl | rfl | rfl | rfl
 ·show _ / 512 % 8 = _; omega
 ·show _ / 64 % 8 = _; omega
 ·show _ / 8 % 8 = _; omega
 ·show _ / 1 % 8 = _; omega
theorem gd_num {r : Rl} (h : gdA r = true) : ∀ i, i < 4 → (0 ≤ r.M i ∧ r.M i ≤ 2) ∧ (0 ≤ r.J i ∧ r.J i ≤ 2) := fun i hi => by
 have g := gdA_iff.1 h i hi
 cases e : r.I i with
 | true => have := (gd_in e).1 g; omega
 | false => have := (gd_out e).1 g; omega
theorem pck21 (ax : Nat → St) (r : Rl) : (pck ax r).getD 21 0 = inN r.I := rfl
theorem pck22 (ax : Nat → St) (r : Rl) : (pck ax r).getD 22 0 = ctN8 r.M 4 := rfl
theorem pck23 (ax : Nat → St) (r : Rl) : (pck ax r).getD 23 0 = ctN8 r.J 4 := rfl
theorem unR_pck (ax : Nat → St) {r : Rl} (h : gdA r = true) : RlE (unR (pck ax r)) r := fun i hi => by
 have hn := gd_num h
 refine ⟨?_, ?_, ?_⟩
 ·show decide ((pck ax r).getD 21 0 / 2 ^ i % 2 = 1) = _
  rw [pck21]; exact (inN_bit r.I).2.2 i hi
 ·show (pck ax r).getD 22 0 / 8 ^ (3 - i) % 8 = _
  rw [pck22]; exact (ctN8_num fun i hi => (hn i hi).1).2.2 i hi
 ·show (pck ax r).getD 23 0 / 8 ^ (3 - i) % 8 = _
  rw [pck23]; exact (ctN8_num fun i hi => (hn i hi).2).2.2 i hi
theorem gdA_congr {r s : Rl} (h : RlE r s) : gdA r = gdA s := by
 unfold gdA
 rw [gd_congr (h 0 (by omega)).1 (h 0 (by omega)).2.1 (h 0 (by omega)).2.2, gd_congr (h 1 (by omega)).1 (h 1 (by omega)).2.1 (h 1 (by omega)).2.2, gd_congr (h 2 (by omega)).1 (h 2 (by omega)).2.1 (h 2 (by omega)).2.2, gd_congr (h 3 (by omega)).1 (h 3 (by omega)).2.1 (h 3 (by omega)).2.2]
theorem unOK_pck (ax : Nat → St) {r : Rl} (h : gdA r = true) : unOK (pck ax r) = true := by
 have hn := gd_num h
 have i1 := inN_bit r.I
 have m1 := ctN8_num fun i hi => (hn i hi).1
 have j1 := ctN8_num fun i hi => (hn i hi).2
 have g : gdA (unR (pck ax r)) = true := by rw [gdA_congr (unR_pck ax h)]; exact h
 have b : ∀ s : St, (0 : Int) ≤ (if s.B then 1 else 0) ∧ ((if s.B then 1 else 0) : Int) ≤ 1 := fun s => by split <;> omega
 unfold unOK
 rw [g, pck21, pck22, pck23, decide_eq_true i1.1, decide_eq_true i1.2.1, decide_eq_true m1.1, decide_eq_true m1.2.1, decide_eq_true j1.1, decide_eq_true j1.2.1]
 show (((decide ((0 : Int) ≤ (if (ax 0).B then 1 else 0)) && decide (((if (ax 0).B then 1 else 0) : Int) ≤ 1)) && ((decide ((0 : Int) ≤ (if (ax 1).B then 1 else 0)) && decide (((if (ax 1).B then 1 else 0) : Int) ≤ 1)) && ((decide ((0 : Int) ≤ (if (ax 2).B then 1 else 0)) && decide (((if (ax 2).B then 1 else 0) : Int) ≤ 1)) && true))) && true && true && true && true && true && true && true) = true
 rw [decide_eq_true (b (ax 0)).1, decide_eq_true (b (ax 0)).2, decide_eq_true (b (ax 1)).1, decide_eq_true (b (ax 1)).2, decide_eq_true (b (ax 2)).1, decide_eq_true (b (ax 2)).2]
 rfl
theorem pairs_three {n : Nd} {l : List Ms} {b : Nat} {v : List Int} (hb : b < 4) (hn : frst n l b 5 24 = none) (h : ∀ s, s < 4 → s ≠ b → frst n l s 5 24 = some v) : prs.findSome? (pairN n l) = some v := by
 have e : ∀ p q, p < 4 → q < 4 → p ≠ b → q ≠ b → pairN n l (p, q) = some v := fun p q hp hq h1 h2 => by
  unfold pairN
  dsimp only
  rw [h p hp h1, h q hq h2]
  exact if_pos rfl
 have z1 : ∀ q, pairN n l (b, q) = none := fun q => by
  unfold pairN
  dsimp only
  rw [hn]
 have z2 : ∀ q, pairN n l (q, b) = none := fun q => by
  unfold pairN
  dsimp only
  rw [hn]
  cases frst n l q 5 24 <;> rfl
 unfold prs
 simp only [List.findSome?_cons]
 rcases four hb with rfl | rfl | rfl | rfl
 ·rw [z1, z1, z1, e 1 2 (by omega) (by omega) (by omega) (by omega)]
 ·rw [z2, e 0 2 (by omega) (by omega) (by omega) (by omega)]
 ·rw [e 0 1 (by omega) (by omega) (by omega) (by omega)]
 ·rw [e 0 1 (by omega) (by omega) (by omega) (by omega)]
structure Al (t : Tn) (b : Nat) (q : Nat) (c : Cl) : Prop where
 id : ∀ i, i < 4 → (c.nd i).id = (i : Nat)
 tn : ∀ i, i < 4 → (c.nd i).tn = t
 ax : ∀ i k : Nat, i < 4 → k < 4 → ∀ a, a < 3 → (c.nd i).ax a = (c.nd k).ax a
 rl : ∀ i k : Nat, i < 4 → k < 4 → RlE (c.nd i).rl (c.nd k).rl
 gd : ∀ i : Nat, i < 4 → gdA (c.nd i).rl = true
 on : ∀ i s : Nat, i < 4 → s < 4 → s ≠ b → (c.nd i).rl.I s = true ∧ (c.nd i).rl.M s = 0
 jn : ∀ i, i < 4 → ((c.nd i).rl.I b = true) ∨ (q : Int) ≤ (c.nd i).rl.J b
section
variable {t : Tn} {b : Nat} {x : Ip} {c : Cl}
theorem back_first (h : Inv t (b : Int) c) (hb4 : b < 4) (hbb : c.nd b = begN (b : Nat) t) (hb : x.bad = -1) (hE : frE x c = 0) {g : Nat} (hg : g < 4) (hgb : g ≠ b)
  (hs : (frN x c b).dg = (frN x c g).dg → (∀ a, a < 3 → (frN x c b).ax a = (frN x c g).ax a) ∧ RlE (frN x c b).rl (frN x c g).rl) : Al t b 0 ⟨c.fr + 1, frN x c⟩ := by
 have gx : ∀ i : Nat, (i : Int) ≠ x.bad := fun i => by rw [hb]; omega
 have gn : ∀ i : Nat, i ≠ b → (i : Int) ≠ (b : Int) := fun i e => by omega
 have eb : (c.nd b).rl = beginR := by rw [hbb, begN_at t hb4]
 have hdg : ∀ i k, i < 4 → k < 4 → i ≠ b → k ≠ b → (ndK x c 3 i).dg = (ndK x c 3 k).dg := fun i k hi hk ei ek =>
  dg_same hE hi hk (gx i) (gx k) ((h.tn i hi).trans (h.tn k hk).symm) (h.ax i k hi hk (gn i ei) (gn k ek)) (h.rl i k hi hk (gn i ei) (gn k ek))
 have hgd : ∀ i, i < 4 → gdA (c.nd i).rl = true := fun i hi => by
  by_cases e : i = b
  ·rw [e, eb]; rfl
  ·exact h.gd i hi (gn i e)
 have hon : ∀ i s, i < 4 → s < 4 → s ≠ b → (c.nd i).rl.I s = true ∧ (c.nd i).rl.M s = 0 := fun i s hi hs e => by
  by_cases e2 : i = b
  ·rw [e2, eb]; exact ⟨rfl, rfl⟩
  ·exact h.on i s hi hs (gn i e2) (gn s e)
 have hv : ∀ i, i < 4 → ∀ s : Nat, s < 4 → (s : Int) ≠ (b : Int) → vtK x c i s = (ndK x c 3 g).dg ∧ (c.nd i).rl.I s = true := fun i hi s hs e =>
  ⟨(vt_good hE hi hs (gx i) (gx s)).trans (hdg s g hs hg (by omega) hgb), (hon i s hi hs (by omega)).1⟩
 have hr : ∀ i, i < 4 → (ndK x c 5 i).rl = (rnN (fun s => decide (vtK x c i s = (ndK x c 3 g).dg)) (c.nd i).rl 4).1 := fun i hi => rl_three hE hi (gx i) (hgd i hi) (hv i hi)
 have hX : ∀ i, i < 4 → (ndK x c 5 i).vX = (ndK x c 3 g).dg ∧ (ndK x c 5 i).vS = true := fun i hi => ⟨(jud_three hE hi (gx i) (hv i hi)).1, (jud_three hE hi (gx i) (hv i hi)).2.1⟩
 have hf : ∀ i, i < 4 → i ≠ b → frN x c i = ndK x c 5 i := fun i hi e => frN_still hE hi (gx i) (by rw [(hX i hi).1, n5_dg hE hi (gx i)]; exact hdg g i hg hi hgb e)
 have g5 : ∀ i, i < 4 → gdA (ndK x c 5 i).rl = true := fun i hi => by rw [hr i hi]; exact rn_good (hgd i hi) 4
 have o5 : ∀ i s, i < 4 → s < 4 → s ≠ b → (ndK x c 5 i).rl.I s = true ∧ (ndK x c 5 i).rl.M s = 0 := fun i s hi hs e => by
  rw [hr i hi]
  have := rn_stays (A := fun s => decide (vtK x c i s = (ndK x c 3 g).dg)) (hon i s hi hs e).1 (hon i s hi hs e).2 (decide_eq_true (hv i hi s hs (gn s e)).1) 4
  exact ⟨this.1, this.2.1⟩
 have a5 : ∀ i, i < 4 → i ≠ b → ∀ a, a < 3 → (ndK x c 5 i).ax a = (ndK x c 5 g).ax a := fun i hi e a ha => by
  rw [n5_ax hE hi (gx i), n5_ax hE hg (gx g)]
  exact ax_same hE hi hg (gx i) (gx g) ((h.tn i hi).trans (h.tn g hg).symm) (h.ax i g hi hg (gn i e) (gn g hgb)) (h.rl i g hi hg (gn i e) (gn g hgb)) ha
 have r5 : ∀ i, i < 4 → i ≠ b → RlE (ndK x c 5 i).rl (ndK x c 5 g).rl := fun i hi e => by
  rw [hr i hi, hr g hg]
  exact rnN_congr (fun s hs => by rw [vt_same hE hi hg hs (gx i) (gx g)]) (h.rl i g hi hg (gn i e) (gn g hgb)) 4 (Nat.le_refl _)
 obtain ⟨kI, kT, kA, kR⟩ : (frN x c b).id = (b : Nat) ∧ (frN x c b).tn = t ∧ (∀ a, a < 3 → (frN x c b).ax a = (ndK x c 5 g).ax a) ∧ RlE (frN x c b).rl (ndK x c 5 g).rl := by
  have t5 : (ndK x c 5 b).tn = t := (n5_tn hE hb4 (gx b)).trans (h.tn b hb4)
  by_cases e : (ndK x c 5 b).vX = (ndK x c 5 b).dg
  ·have es := frN_still hE hb4 (gx b) e
   have e2 : (frN x c b).dg = (frN x c g).dg := by
    rw [es, hf g hg hgb, ← e, (hX b hb4).1, n5_dg hE hg (gx g)]
   obtain ⟨q1, q2⟩ := hs e2
   rw [hf g hg hgb] at q1 q2
   exact ⟨by rw [es]; exact id5 hE hb4 (gx b), by rw [es]; exact t5, q1, q2⟩
  ·have ec : cloV (ndK x c 5 b) (bxK x c 5 b) = some (pck (ndK x c 5 g).ax (ndK x c 5 g).rl) := by
    unfold cloV
    rw [if_pos ⟨(hX b hb4).2, e⟩]
    refine pairs_three hb4 (frst_own (by rw [id5 hE hb4 (gx b)])) (fun s hs es => ?_)
    rw [hear4 hE hb4 hs (gx b) (gx s) es, pck_congr (a5 s hs es) (r5 s hs es)]
   have ef : frN x c b = { ndK x c 5 b with ax := unA (pck (ndK x c 5 g).ax (ndK x c 5 g).rl), rl := unR (pck (ndK x c 5 g).ax (ndK x c 5 g).rl) } := by
    unfold frN
    rw [if_neg (gx b)]
    show cloN (ndK x c 5 b) (bxK x c 5 b) = _
    unfold cloN
    rw [if_neg (by rw [id5 hE hb4 (gx b), noN_at hb4]; decide), ec]
    dsimp only
    rw [if_pos (unOK_pck _ (g5 g hg))]
   rw [ef]
   exact ⟨id5 hE hb4 (gx b), t5, unA_pck _ _, unR_pck _ (g5 g hg)⟩
 have aG : ∀ i, i < 4 → ∀ a, a < 3 → (frN x c i).ax a = (ndK x c 5 g).ax a := fun i hi a ha => by
  by_cases e : i = b
  ·rw [e]; exact kA a ha
  ·rw [hf i hi e]; exact a5 i hi e a ha
 have rG : ∀ i, i < 4 → RlE (frN x c i).rl (ndK x c 5 g).rl := fun i hi => by
  by_cases e : i = b
  ·rw [e]; exact kR
  ·rw [hf i hi e]; exact r5 i hi e
 refine ⟨fun i hi => ?_, fun i hi => ?_, fun i k hi hk a ha => (aG i hi a ha).trans (aG k hk a ha).symm, fun i k hi hk => (rG i hi).trans (rG k hk).symm, fun i hi => ?_, fun i s hi hs e => ?_, fun i hi => ?_⟩
 ·show (frN x c i).id = _
  by_cases e : i = b
  ·rw [e]; exact kI
  ·rw [hf i hi e]; exact id5 hE hi (gx i)
 ·show (frN x c i).tn = _
  by_cases e : i = b
  ·rw [e]; exact kT
  ·rw [hf i hi e, n5_tn hE hi (gx i)]; exact h.tn i hi
 ·show gdA (frN x c i).rl = true
  rw [gdA_congr (rG i hi)]; exact g5 g hg
 ·show (frN x c i).rl.I s = true ∧ (frN x c i).rl.M s = 0
  rw [(rG i hi s hs).1, (rG i hi s hs).2.1]
  exact o5 g s hg hs e
 ·show (frN x c i).rl.I b = true ∨ ((0 : Nat) : Int) ≤ (frN x c i).rl.J b
  rw [(rG i hi b hb4).2.2]
  exact Or.inr (gd_num (g5 g hg) b hb4).2.1
theorem back_next {q : Nat} (h : Al t b q c) (hb4 : b < 4) (hb : x.bad = -1) (hE : frE x c = 0) : Al t b (q + 1) ⟨c.fr + 1, frN x c⟩ ∧ (2 ≤ q → ∀ i, i < 4 → (frN x c i).rl.I b = true) ∧ ∀ i k, i < 4 → k < 4 → (frN x c i).dg = (frN x c k).dg := by
 have gx : ∀ i : Nat, (i : Int) ≠ x.bad := fun i => by rw [hb]; omega
 have hdg : ∀ i k, i < 4 → k < 4 → (ndK x c 3 i).dg = (ndK x c 3 k).dg := fun i k hi hk => dg_same hE hi hk (gx i) (gx k) ((h.tn i hi).trans (h.tn k hk).symm) (h.ax i k hi hk) (h.rl i k hi hk)
 have hv : ∀ i, i < 4 → ∀ s : Nat, s < 4 → vtK x c i s = (ndK x c 3 i).dg := fun i hi s hs => (vt_good hE hi hs (gx i) (gx s)).trans (hdg s i hs hi)
 have hv' : ∀ i, i < 4 → ∀ s : Nat, s < 4 → (s : Int) ≠ (b : Int) → vtK x c i s = (ndK x c 3 i).dg ∧ (c.nd i).rl.I s = true := fun i hi s hs e => ⟨hv i hi s hs, (h.on i s hi hs (by omega)).1⟩
 have hr : ∀ i, i < 4 → (ndK x c 5 i).rl = (rnN (fun s => decide (vtK x c i s = (ndK x c 3 i).dg)) (c.nd i).rl 4).1 := fun i hi => rl_three hE hi (gx i) (h.gd i hi) (hv' i hi)
 have hf : ∀ i, i < 4 → frN x c i = ndK x c 5 i := fun i hi => frN_still hE hi (gx i) (by rw [(jud_three hE hi (gx i) (hv' i hi)).1, n5_dg hE hi (gx i)])
 have jn : ∀ i, i < 4 → ((ndK x c 5 i).rl.I b = true ∨ ((q + 1 : Nat) : Int) ≤ (ndK x c 5 i).rl.J b) ∧ (2 ≤ q → (ndK x c 5 i).rl.I b = true) := fun i hi => by
  rw [hr i hi]
  have hA : decide (vtK x c i b = (ndK x c 3 i).dg) = true := decide_eq_true (hv i hi b hb4)
  generalize hAA : (fun s => decide (vtK x c i s = (ndK x c 3 i).dg)) = A
  have hAb : A b = true := by rw [← hAA]; exact hA
  obtain ⟨e1, e2, e3⟩ := rn_at (A := A) (r := (c.nd i).rl) 4 hb4
  obtain ⟨f1, f2, f3⟩ := rn_rest (A := A) (r := (c.nd i).rl) b (Nat.le_refl b)
  cases hI : (c.nd i).rl.I b with
  | true =>
   have : (rnN A (c.nd i).rl 4).1.I b = true := by rw [e1, (st_agree (by rw [f1]; exact hI) hAb).1]; exact f1.trans hI
   exact ⟨Or.inl this, fun _ => this⟩
  | false =>
   have hJ : (q : Int) ≤ (c.nd i).rl.J b := by
    rcases h.jn i hi with k | k
    ·rw [hI] at k; cases k
    ·exact k
   by_cases c3 : 3 ≤ (rnN A (c.nd i).rl b).1.J b + 1
   ·have : (rnN A (c.nd i).rl 4).1.I b = true := by rw [e1, (st_in (by rw [f1]; exact hI) hAb c3).1]; exact upM_same _ _ _
    exact ⟨Or.inl this, fun _ => this⟩
   ·rw [f3] at c3
    refine ⟨Or.inr ?_, fun hq => ?_⟩
    ·rw [e3, (st_join (by rw [f1]; exact hI) hAb (by rw [f3]; exact c3)).1]
     show _ ≤ upM _ _ _ _
     rw [upM_same, f3]; omega
    ·omega
 refine ⟨⟨fun i hi => ?_, fun i hi => ?_, fun i k hi hk a ha => ?_, fun i k hi hk => ?_, fun i hi => ?_, fun i s hi hs e => ?_, fun i hi => ?_⟩, fun hq i hi => ?_, fun i k hi hk => ?_⟩
 ·show (frN x c i).id = _; rw [hf i hi]; exact id5 hE hi (gx i)
 ·show (frN x c i).tn = _; rw [hf i hi, n5_tn hE hi (gx i)]; exact h.tn i hi
 ·show (frN x c i).ax a = (frN x c k).ax a
  rw [hf i hi, hf k hk, n5_ax hE hi (gx i), n5_ax hE hk (gx k)]
  exact ax_same hE hi hk (gx i) (gx k) ((h.tn i hi).trans (h.tn k hk).symm) (h.ax i k hi hk) (h.rl i k hi hk) ha
 ·show RlE (frN x c i).rl (frN x c k).rl
  rw [hf i hi, hf k hk, hr i hi, hr k hk]
  exact rnN_congr (fun s hs => by rw [decide_eq_true (hv i hi s hs), decide_eq_true (hv k hk s hs)]) (h.rl i k hi hk) 4 (Nat.le_refl _)
 ·show gdA (frN x c i).rl = true; rw [hf i hi, hr i hi]; exact rn_good (h.gd i hi) 4
 ·show (frN x c i).rl.I s = true ∧ (frN x c i).rl.M s = 0
  rw [hf i hi, hr i hi]
  have := rn_stays (A := fun s => decide (vtK x c i s = (ndK x c 3 i).dg)) (h.on i s hi hs e).1 (h.on i s hi hs e).2 (decide_eq_true (hv i hi s hs)) 4
  exact ⟨this.1, this.2.1⟩
 ·show (frN x c i).rl.I b = true ∨ ((q + 1 : Nat) : Int) ≤ (frN x c i).rl.J b
  rw [hf i hi]; exact (jn i hi).1
 ·rw [hf i hi]; exact (jn i hi).2 hq
 ·rw [hf i hi, hf k hk, n5_dg hE hi (gx i), n5_dg hE hk (gx k)]; exact hdg i k hi hk
end
end Go.Proofs.YtdhblehhgpdpdacGreat
namespace Go.Proofs.YtdhblehhgpdpdacGreat
open Go.RowKit
def listI {α : Type} (f : α → It) (L : List α) : It := ⟨fun w => ∀ x, x ∈ L → (f x).p w, fun k => ∃ x, x ∈ L ∧ (f x).foot k, fun h e x hx => (f x).ok (h x hx) (fun k h1 h2 => e k h1 ⟨x, hx, h2⟩), fun h ⟨x, hx, e⟩ => (f x).lt (h x hx) e⟩
theorem list_push {α : Type} {f : α → It} {L : List α} {y : α} {w0 w : World} {l : List It} (H : Cx w0 w (f y :: listI f L :: l)) : Cx w0 w (listI f (L ++ [y]) :: l) := by
 refine H.merge.wk (fun h x hx => ?_) (fun k ⟨x, hx, hk⟩ => ?_)
 ·rcases List.mem_append.1 hx with hx | hx
  ·exact h.2 x hx
  ·simp only [List.mem_cons, List.not_mem_nil, or_false] at hx
   rw [hx]; exact h.1
 ·rcases List.mem_append.1 hx with hx | hx
  ·exact Or.inr ⟨x, hx, hk⟩
  ·simp only [List.mem_cons, List.not_mem_nil, or_false] at hx
   rw [hx] at hk; exact Or.inl hk
theorem Cx.plus {w0 w w' : World} {l m : List It} (H : Cx w0 w l) (G : Cx w w' m) : Cx w0 w' (m ++ l) := by
 have H' := H.call G.bel
 have hs := H.size
 refine ⟨H'.bel, fun x hx => ?_, fun x hx k hk => ?_, List.pairwise_append.2 ⟨G.dis, H.dis, fun x hx y hy k h1 h2 => ?_⟩⟩
 ·rcases List.mem_append.1 hx with hx | hx
  ·exact G.it x hx
  ·exact H'.it x hx
 ·rcases List.mem_append.1 hx with hx | hx
  ·have := G.up x hx k hk; omega
  ·exact H.up x hx k hk
 ·have h3 := G.up x hx k h1
  have h4 := y.lt (H.it y hy) h2
  omega
theorem ownI_base {w0 w : World} {B C : Nat} {t : TypeId} {s : Nat} {v : Value} {n : Nat} {xs : List Value} {l : List It} (H : Cx w0 w (ownI B t s v n xs :: l)) (h : C ≤ B) : Cx w0 w (ownI C t s v n xs :: l) := H.wk (fun h1 => rw_base h1 h) (fun _ h => h)
theorem agI_base {w0 w : World} {B C : Nat} {D : Nat → Nd × Ad} {l : List It} (H : Cx w0 w (agI B D :: l)) (h : C ≤ B) : Cx w0 w (agI C D :: l) := H.wk (fun h1 i hi => rw_base (h1 i hi) h) (fun _ h => h)
def cK (t : Tn) (L : List Li) : Nat → Cl
 | 0 => begC t
 | k + 1 => match L[k]? with | some c => frC c.x (cK t L k) | none => cK t L k
theorem cK_succ {t : Tn} {L : List Li} {k : Nat} {c : Li} (h : L[k]? = some c) : cK t L (k + 1) = frC c.x (cK t L k) := by
 show (match L[k]? with | some c => frC c.x (cK t L k) | none => cK t L k) = _
 rw [h]
theorem cloN_id (n : Nd) (l : List Ms) : (cloN n l).id = n.id := by
 unfold cloN
 split
 ·rfl
 ·split
  ·split <;> rfl
  ·rfl
theorem frN_id {x : Ip} {c : Cl} (hE : frE x c = 0) {i : Nat} (hi : i < 4) : (frN x c i).id = (i : Nat) := by
 unfold frN
 split
 ·exact id0 hE hi
 ·rw [cloN_id]; exact wk_id hE (Nat.le_refl _) hi
theorem frE_zero {x : Ip} {c : Cl} (h1 : -1 ≤ x.bad ∧ x.bad < 4) (h2 : 0 ≤ c.fr ∧ c.fr ≤ 1073741823) (h3 : x.ly.length ≤ 400) (h4 : ∀ i, i < 4 → (c.nd i).id = (i : Nat)) : frE x c = 0 := by
 unfold frE
 rw [if_neg (by omega), if_neg (by omega), if_pos ⟨h4 0 (by omega), h4 1 (by omega), h4 2 (by omega), h4 3 (by omega)⟩]
def InOK (L : List Li) : Prop := L.length ≤ 1000 ∧ ∀ c, c ∈ L → (-1 ≤ c.bad ∧ c.bad < 4) ∧ c.LL.length ≤ 400
theorem cK_ok {t : Tn} {L : List Li} (h : InOK L) : ∀ k, k ≤ L.length → (cK t L k).fr = (k : Nat) ∧ (∀ i, i < 4 → ((cK t L k).nd i).id = (i : Nat)) ∧ (∀ c, L[k]? = some c → frE c.x (cK t L k) = 0)
 | 0, _ => by
  have h2 : ∀ i, i < 4 → ((cK t L 0).nd i).id = (i : Nat) := fun i hi => (begC_inv t (-1)).id i hi
  refine ⟨rfl, h2, fun c hc => ?_⟩
  obtain ⟨h3, h4⟩ := h.2 c (List.mem_of_getElem? hc)
  exact frE_zero h3 ⟨Int.le_refl _, (show (0 : Int) ≤ 1073741823 by decide)⟩ (by show (c.LL.map Lj.y).length ≤ 400; rw [List.length_map]; exact h4) h2
 | k + 1, hk => by
  obtain ⟨g1, g2, g3⟩ := cK_ok h k (by omega)
  have hc := List.getElem?_eq_getElem (show k < L.length by omega)
  have hE := g3 _ hc
  have e : cK t L (k + 1) = ⟨(cK t L k).fr + 1, frN (L[k]).x (cK t L k)⟩ := by rw [cK_succ hc]; unfold frC; rw [if_pos hE]
  have e1 : (cK t L (k + 1)).fr = ((k + 1 : Nat) : Int) := by rw [e]; show (cK t L k).fr + 1 = _; rw [g1]; omega
  have e2 : ∀ i, i < 4 → ((cK t L (k + 1)).nd i).id = (i : Nat) := fun i hi => by rw [e]; exact frN_id hE hi
  refine ⟨e1, e2, fun c hc => ?_⟩
  obtain ⟨h3, h4⟩ := h.2 c (List.mem_of_getElem? hc)
  have := h.1
  exact frE_zero h3 (by rw [e1]; omega) (by show (c.LL.map Lj.y).length ≤ 400; rw [List.length_map]; exact h4) e2
theorem cK_cls {t : Tn} {L : List Li} (ht : t.Ok) (hL : ∀ c, c ∈ L → IpOK c.x) : ∀ k, ClsOK (cK t L k)
 | 0 => begC_ok ht
 | k + 1 => by
  show ClsOK (match L[k]? with | some c => frC c.x (cK t L k) | none => cK t L k)
  split
  ·rename_i c hc
   exact frC_ok (hL c (List.mem_of_getElem? hc)) (cK_cls ht hL k)
  ·exact cK_cls ht hL k
def clH (d : Int × (Nat → Nd × Ad)) : Nat → Value := clG d.1 d.2
def rsH (d : List Nd × Ad) (_ : Nat) : Value := slV d.2 d.1.length
def rsJ (B : Nat) (d : List Nd × Ad) : It := ownI B 61 14 (slV d.2 d.1.length) d.1.length (rwS rpF 14 d.1)
theorem frC_congr {x : Ip} {fr : Int} {D : Nat → Nd × Ad} {c : Cl} (hf : c.fr = fr) (hn : ∀ i, i < 4 → (D i).1 = c.nd i) : frE x ⟨fr, fun i => (D i).1⟩ = frE x c ∧ (frC x ⟨fr, fun i => (D i).1⟩).fr = (frC x c).fr ∧ (∀ i, i < 4 → (frC x ⟨fr, fun i => (D i).1⟩).nd i = (frC x c).nd i) ∧ frR x ⟨fr, fun i => (D i).1⟩ = frR x c := by
 have hk : ∀ k, ∀ i, i < 4 → (wkK x ⟨fr, fun i => (D i).1⟩ k).nd i = (wkK x c k).nd i ∧ (wkK x ⟨fr, fun i => (D i).1⟩ k).bx i = (wkK x c k).bx i := by
  intro k
  induction k with
  | zero => exact fun i hi => ⟨hn i hi, rfl⟩
  | succ k ih =>
   intro i hi
   obtain ⟨h1, h2⟩ := ih i hi
   refine ⟨?_, ?_⟩
   ·show wkN x fr _ k i = wkN x c.fr _ k i
    rw [hf]
    exact (wkN_of h1 h2).1
   ·show bxM x _ i k 4 = bxM x _ i k 4
    refine bxM_congr fun j hj => ?_
    obtain ⟨h3, h4⟩ := ih j hj
    show wkM x fr _ k j = wkM x c.fr _ k j
    rw [hf]
    exact (wkN_of h3 h4).2
 have hN : ∀ i, i < 4 → frN x ⟨fr, fun i => (D i).1⟩ i = frN x c i := fun i hi => by
  unfold frN
  rw [(hk 5 i hi).1, (hk 5 i hi).2]
  show (if _ then (D i).1 else _) = _
  rw [hn i hi]
 have hE : frE x ⟨fr, fun i => (D i).1⟩ = frE x c := by
  unfold frE
  dsimp only
  simp only [hf, hn 0 (by omega), hn 1 (by omega), hn 2 (by omega), hn 3 (by omega)]
 refine ⟨hE, ?_, fun i hi => ?_, ?_⟩
 ·unfold frC
  rw [hE]
  split
  ·show fr + 1 = c.fr + 1; rw [hf]
  ·rfl
 ·unfold frC
  rw [hE]
  split
  ·exact hN i hi
  ·rfl
 ·unfold frR
  rw [hE]
  split
  ·refine List.map_congr_left fun i hi => hN i ?_
   unfold gdL at hi
   exact List.mem_range.1 (List.mem_filter.1 hi).1
  ·rfl
theorem res_t3 {P : Program} {a : Act} {w : World} {fn : Func} {p p' p2 : Nat} {u v z : Value} (h : fn.results = #[.tmp p, .tmp p', .tmp p2]) (hv : a.eval (.tmp p) = u) (hv' : a.eval (.tmp p') = v) (hv2 : a.eval (.tmp p2) = z) : (results fn a.tmps).run P w = .ok (.tuple #[u, v, z]) w := by
 have e := getD_ev hv; have e2 := getD_ev hv'; have e3 := getD_ev hv2
 simp only [Array.getD_eq_getD_getElem?] at e e2 e3
 simp [results, h, e, e2, e3]
theorem wp_one1 {P : Program} {Q : Exit → Act → World → Prop} {o : Oper} {a : Act} {K : Act → World → Prop} {w : World} {s e : TypeId} {x : Operand} {v z : Value} (hu : P.underlying s = some (.slice e)) (T : OneC P e) (hz : ∀ w, (zeroValue e).run P w = .ok z w) (h1 : z.cells = #[z]) (h2 : v.cells = #[v]) (ho : o.op = .buildSlice s 1 #[(0, x)]) (hx : a.eval x = v)
  (h : ∀ w', Vh e w' w.heap.size 1 1 (fun _ => v) → Below w.heap.size w w' → w'.heap.size = w.heap.size + 1 → K (a.put o.dst (.slice (some ⟨w.heap.size, 0, none⟩) 1 1)) w') : WpI P o a w K Q := by
 refine ⟨?_⟩
 have hh := h (w.alloc (.cells #[v] e)) (Vh.of_row (fun _ => v) 1 (by decide) (by show (w.heap.push _)[w.heap.size]? = _; rw [Array.getElem?_push_size]; rfl)) (al_below _ _) (al_size _ _)
 unfold Oper.wp execOp
 simp only [ho, List.map_toArray, List.map_cons, List.map_nil, hx, Instr.buildSlice, Sem.run_bind, run_underlying hu, Result.andThen_ok, T.size, Nat.one_mul, gt_iff_lt]
 rw [if_neg (by decide), if_neg (by decide)]
 simp only [Sem.run_bind, hz, Result.andThen_ok, Sem.run_pure, h1]
 have hf : ∀ ds : Array Value, ds.size = 1 → Instr.fill (fun i => some (i * 1, 1)) ds [(0, v)] = some #[v] := fun ds hds => by
  match ds, hds with
  | ⟨[d]⟩, _ => simp [Instr.fill, h2]
 rw [hf _ (by simp)]
 simp only [newRow, newObj]
 go_simp
 exact hh
set_option maxHeartbeats 2000000 in
theorem behind_any (t : Tn) (mo : Option Addr) (mc : Nat) (L : List Li) (w : World) (ht : t.Ok) (hr : RdS inpF 14 w mo L) (hok : ∀ c, c ∈ L → LiOK w c) (hin : InOK L) :
  Calls Tryz.prog 11 #[agV (ntnF t) 0 4, .slice mo L.length mc] w fun e w' => ∃ (v1 v2 : Value) (CL : List (Int × (Nat → Nd × Ad))) (RL : List (List Nd × Ad)), e = .returned (.tuple #[v1, v2, .bool true]) ∧ CL.length = L.length ∧ RL.length = L.length ∧ (∀ k d, CL[k]? = some d → d.1 = ((k + 1 : Nat) : Int) ∧ ∀ i, i < 4 → (d.2 i).1 = (cK t L (k + 1)).nd i) ∧ (∀ k d c, RL[k]? = some d → L[k]? = some c → d.1 = frR c.x (cK t L k)) ∧
   Cx w w' [ownI w.heap.size 58 297 v1 CL.length (rwS clH 297 CL), listI (fun d : Int × (Nat → Nd × Ad) => agI w.heap.size d.2) CL, ownI w.heap.size 59 1 v2 RL.length (rwS rsH 1 RL), listI (rsJ w.heap.size) RL] := by
 refine enterF Tryz.func11 rfl 52 rfl (of_decide_eq_true rfl) (fun A hs hd hb => ?_)
 have b0 : A.eval (.tmp 0) = agV (ntnF t) 0 4 := hb 0 _ rfl
 have b1 : A.eval (.tmp 1) = .slice mo L.length mc := hb 1 _ rfl
 clear hb
 have hL1 := hin.1
 have H := Cx.start w
 refine c_rs (m_start ?_)
 refine q_box H ?_
 intro w1 H z1
 repeat first | refine qa ?_ | refine l_nx ?_ | refine c_rs ?_
 have hsz := H.size
 refine q_c1 (clBegin_ok t w1 ht) ?_
 rintro e w2 ⟨D0, rfl, hD0, G⟩
 refine ⟨_, rfl, ?_⟩
 replace H := agI_base (H.plus G) hsz
 refine q_al H ?_
 intro w3 H z3
 refine q_sp0 H stP_whole (clG_one _ _) ?_
 intro w4 H z4
 repeat first | refine qa ?_ | refine l_nx ?_ | refine c_rs ?_ | refine c_nx ?_
 refine c_block ?_
 refine c_loop (fun r A W => ∃ (k : Nat) (D : Nat → Nd × Ad) (v1 v2 : Value) (CL CA : List (Int × (Nat → Nd × Ad))) (RL : List (List Nd × Ad)), k ≤ L.length ∧ L.length - k ≤ r ∧ A.tmps.size = 52 ∧ A.defers = [] ∧ A.eval (.tmp 1) = .slice mo L.length mc ∧ A.eval (.tmp 7) = .pointer (some ⟨w2.heap.size, 0, none⟩) ∧ A.eval (.tmp 8) = v1 ∧ A.eval (.tmp 9) = v2 ∧ A.eval (.tmp 10) = .int .i64 (k : Int) ∧
   CL.length = k ∧ RL.length = k ∧ (∀ i, i < 4 → (D i).1 = (cK t L k).nd i) ∧ (∃ q, (q, D) ∈ CA) ∧ (∀ d, d ∈ CL → d ∈ CA) ∧ (∀ j d, CL[j]? = some d → d.1 = ((j + 1 : Nat) : Int) ∧ ∀ i, i < 4 → (d.2 i).1 = (cK t L (j + 1)).nd i) ∧ (∀ j d c, RL[j]? = some d → L[j]? = some c → d.1 = frR c.x (cK t L j)) ∧
   Cx w W [vhI 58 w2.heap.size 297 297 (clG (k : Int) D), listI (fun d : Int × (Nat → Nd × Ad) => agI w.heap.size d.2) CA, ownI w.heap.size 58 297 v1 CL.length (rwS clH 297 CL), ownI w.heap.size 59 1 v2 RL.length (rwS rsH 1 RL), listI (rsJ w.heap.size) RL]) L.length
  ⟨0, D0, _, _, [], [(0, D0)], [], Nat.zero_le _, by omega, (szL _ _).trans hs, (defL _ _).trans hd, Qv, Qv, Qv, Qv, Qv, rfl, rfl, hD0, ⟨0, List.mem_cons_self⟩, fun _ h => (by cases h), fun j d h => (by simp at h), fun j d c h => (by simp at h), ?_⟩ (fun r B W hI => ?_)
 ·have H1 : Cx w w4 [vhI 58 w2.heap.size 297 297 (clG ((0 : Nat) : Int) D0), listI (fun d : Int × (Nat → Nd × Ad) => agI w.heap.size d.2) [(0, D0)]] := (H.f2.tl.f1.wk (y := listI (fun d : Int × (Nat → Nd × Ad) => agI w.heap.size d.2) [(0, D0)]) (fun h x hx => by simp only [List.mem_cons, List.not_mem_nil, or_false] at hx; rw [hx]; exact h) (fun k ⟨x, hx, hk⟩ => by simp only [List.mem_cons, List.not_mem_nil, or_false] at hx; rw [hx] at hk; exact hk)).f1
  have H2 := ((H1.add (Below.refl _ _) (listI (rsJ w.heap.size) []) (fun x hx => by cases hx) (fun j ⟨x, hx, _⟩ => by cases hx)).add (Below.refl _ _) (ownI w.heap.size 59 1 (.slice none 0 0) 0 []) (World.ownsRow_nil _ _ _ _) (fun j e => nomatch e)).add (Below.refl _ _) (ownI w.heap.size 58 297 (.slice none 0 0) 0 []) (World.ownsRow_nil _ _ _ _) (fun j e => nomatch e)
  exact H2.f4.f4
 clear b0 b1 hs hd H
 obtain ⟨k, D, v1, v2, CL, CA, RL, hk, hrr, hs, hd, b1, b7, b8, b9, b10, hCl, hRl, hD, ⟨q, hq⟩, hCA, hC, hR, H⟩ := hI
 refine c_nx ?_
 refine c_rs (m_start ?_)
 repeat first | refine qa ?_ | refine l_nx ?_
 refine q_if (fun h => ?_) (fun h => ?_)
 ·have hkn : k < L.length := by have := of_decide_eq_true h; omega
  have hc := List.getElem?_eq_getElem hkn
  obtain ⟨cc, ec⟩ : ∃ cc, cc = L[k] := ⟨_, rfl⟩
  rw [← ec] at hc
  have hcc := hok cc (by rw [ec]; exact List.getElem_mem hkn)
  obtain ⟨pb, po, rfl, hcell⟩ := hr (by omega)
  have hcell := hcell k cc hc
  obtain ⟨o1, o2, o3⟩ := cK_ok (t := t) hin k hk
  have hE := o3 cc hc
  obtain ⟨p1, p2, p3, p4⟩ := frC_congr (x := cc.x) o1 hD
  refine c_fin ?_
  refine c_nx (c_block ?_)
  refine c_nx ?_
  replace H := H.drew
  have hag : ∀ i, i < 4 → AgRd W.drew (D i).1 (D i).2.1 (D i).2.2 := fun i hi => by
   have ho : World.ownsRow _ _ _ _ _ _ _ := H.o1 (q, D) hq i hi
   obtain ⟨a3, c3, e, hs3, _⟩ := owns_sr ho
   cases e
   exact hs3
  have hcls : ClsOK ⟨(k : Int), fun i => (D i).1⟩ := by
   have := cK_cls (L := L) ht (fun c hc => (hok c hc).ip) k
   exact ⟨by have := this.1; rw [o1] at this; exact this, fun i hi => by show NdOK (D i).1; rw [hD i hi]; exact this.2 i hi⟩
  have eN : ∀ i, i < 4 → (frC cc.x ⟨(k : Int), fun i => (D i).1⟩).nd i = (cK t L (k + 1)).nd i := fun i hi => by rw [p3 i hi, cK_succ hc]
  have eF : (frC cc.x ⟨(k : Int), fun i => (D i).1⟩).fr = ((k + 1 : Nat) : Int) := by
   rw [p2, ← cK_succ hc]
   exact (cK_ok hin (k + 1) (by omega)).1
  have hcW : ∀ j, j < 14 → W.drew.cell? ⟨pb, po + k * 14 + j, none⟩ = some (inpF cc j) := fun j hj => at_below (hcell j hj) H.bel
  have hS : (fun W' => Its [vhI 58 w2.heap.size 297 297 (clG (k : Int) D)] W' ∧ ∀ j, j < 14 → W'.cell? ⟨pb, po + k * 14 + j, none⟩ = some (inpF cc j)) W.drew := ⟨Its.cons H.o0 (Its.nil _), hcW⟩
  refine c_rj (S := fun W' => Its [vhI 58 w2.heap.size 297 297 (clG (k : Int) D)] W' ∧ ∀ j, j < 14 → W'.cell? ⟨pb, po + k * 14 + j, none⟩ = some (inpF cc j)) (.rd 0 (.mv 1 (.mv 2 (.mv 3 (.rd 4 (.two 5 10 (.mv 6 (.mv 7 (.mv 8 (.mv 9 (.go 10 (.go 11 (.mv 12 (.mv 13 .fin)))))))) (.go 5 (.mv 6 (.mv 7 (.mv 8 (.mv 9 (.go 11 (.mv 12 (.mv 13 .fin)))))))))))))) [11] (by kernel_rfl) (by kernel_rfl) ?_
  refine Yr rfl hS (fun _ H => run_loadP _ _ rfl ManyK.out Qv H.1.v0 (by omega)) ?_
  iterate 2 refine qj ?_
  refine j_mv rfl rfl (fun _ _ _ h => h) (wanted_rd rfl) (fun w => run_ixSC _ _ _ _ rfl SlcK.out SizK.out Qv Qv rfl hkn w) ?_
  refine Yr rfl hS (fun _ H => run_lodCs (g := inpF cc) ManyK.out H.2 rfl Qv) ?_
  refine sJ_cut (r := .go 11 (.mv 12 (.mv 13 .fin))) (fun A W' => ∃ (qb : Nat) (D' : Nat → Nd × Ad) (vr : Value), A.tmps.size = 52 ∧ A.defers = [] ∧ A.eval (.tmp 1) = .slice (some ⟨pb, po, none⟩) L.length mc ∧ A.eval (.tmp 7) = .pointer (some ⟨w2.heap.size, 0, none⟩) ∧ A.eval (.tmp 8) = v1 ∧ A.eval (.tmp 9) = v2 ∧ A.eval (.tmp 10) = .int .i64 (k : Int) ∧ A.eval (.tmp 11) = .pointer (some ⟨qb, 0, none⟩) ∧ A.eval (.tmp 29) = agV (clG ((k + 1 : Nat) : Int) D') 0 297 ∧ A.eval (.tmp 30) = vr ∧ A.eval (.tmp 31) = .int .i64 0 ∧ (∀ i, i < 4 → (D' i).1 = (cK t L (k + 1)).nd i) ∧ Cx w W' [vhI 58 qb 297 297 (clF 0 (fun _ => zeroN) (fun _ => slV (none, 0) 0)), ownI w.heap.size 61 14 vr (frR cc.x (cK t L k)).length (rwS rpF 14 (frR cc.x (cK t L k))), agI w.heap.size D', vhI 58 w2.heap.size 297 297 (clG (k : Int) D), listI (fun d : Int × (Nat → Nd × Ad) => agI w.heap.size d.2) CA, ownI w.heap.size 58 297 v1 CL.length (rwS clH 297 CL), ownI w.heap.size 59 1 v2 RL.length (rwS rsH 1 RL), listI (rsJ w.heap.size) RL]) (fun A W' hT => ?_) (fun hcut => ?_)
  ·clear b1 b7 b8 b9 b10 hs hd H hS hcW hag
   obtain ⟨qb, D', vr, hs, hd, b1, b7, b8, b9, b10, b11, b29, b30, b31, hD', H⟩ := hT
   refine j_start ?_
   refine j_st rfl (wanted_rd rfl) (fun K hK => ?_)
   refine wp_storeP _ _ _ _ rfl ManyK.out Qv Qv H.v0 (by omega) (clG_one _ _) rfl ?_
   intro w6 m6 k6 z6
   replace H := H.s0 k6 (m6.congr stP_whole)
   refine hK _ (fun h => absurd h (by decide)) ?_
   clear hK K
   iterate 2 refine qj ?_
   refine j_nx ?_
   refine c_nx ?_
   refine c_rs ?_
   refine qa ?_
   refine qg (run_neqE (b := false) _ _ rfl Qv Qv rfl _) ?_
   iterate 5 refine qa ?_
   refine qg (run_neqI (b := false) _ _ rfl Qv Qv (decide_eq_false (fun e => e (by show ((k + 1 : Nat) : Int) = (k : Int) + 1; omega))) _) ?_
   refine qg (run_pickF _ _ _ rfl Qv Qv _) ?_
   refine l_nx ?_
   refine q_no rfl (c_fin ?_)
   refine c_rs ?_
   refine qa ?_
   refine q_sp3 H stP_whole (clG_one _ _) ?_
   intro w7 H z7
   refine l_nx ?_
   refine c_region ?_
   iterate 2 refine qa ?_
   refine m_do rfl (wanted_rd rfl) (fun K hK => ?_)
   refine wp_oneG SlcK.out ManyK.out ZerK.out (by decide) (by decide) rfl Qv ?_
   intro w8 m8 k8 z8
   have hsz := H.size
   replace H := H.call k8
   refine hK _ _ ?_
   clear hK K
   refine q_ap5 (bytes := 2344) H (rdc_own (rwS_own1 (B := w.heap.size) (F := clH) (x := (((k + 1 : Nat) : Int), D')) m8 (by omega))) (rwS_one (fun x _ => clG_one _ _)) (by unfold maxLen; omega) (by omega) ?_
   intro v1' w9 H
   iterate 2 refine qa ?_
   refine m_do rfl (wanted_rd rfl) (fun K hK => ?_)
   have hvr : World.ownsRow _ _ _ _ _ _ _ := H.o1
   obtain ⟨ra, rc, rfl, hrc⟩ := rw_slice hvr
   refine wp_one1 (v := .slice ra (frR cc.x (cK t L k)).length rc) SlcK.out OneK.out Zer1.out rfl rfl rfl Qv ?_
   intro w10 m10 k10 z10
   have hsz := H.size
   replace H := H.call k10
   refine hK _ _ ?_
   clear hK K
   refine q_ap0 (bytes := 24) H.f6 (rdc_own (rwS_own1 (B := w.heap.size) (F := rsH) (x := (frR cc.x (cK t L k), (ra, rc))) m10 (by omega))) (rwS_one (fun x _ _ _ => rfl)) (by unfold maxLen; omega) (by omega) ?_
   intro v2' w11 H
   iterate 2 refine qa ?_
   refine l_finB ?_
   refine c_region ?_
   repeat refine qa ?_
   have H2 := list_push (f := rsJ w.heap.size) (y := (frR cc.x (cK t L k), (ra, rc))) H.f7.f3
   have H3 := list_push (f := fun d : Int × (Nat → Nd × Ad) => agI w.heap.size d.2) (y := (((k + 1 : Nat) : Int), D')) H2.f5.f4
   refine l_round ⟨L.length - (k + 1), by omega, k + 1, D', _, _, CL ++ [(((k + 1 : Nat) : Int), D')], CA ++ [(((k + 1 : Nat) : Int), D')], RL ++ [(frR cc.x (cK t L k), (ra, rc))], by omega, by omega, (szL _ _).trans hs, (defL _ _).trans hd, Qv, Qv, Qv, Qv, Eq.trans Qv (by rw [Int.natCast_add]; rfl), by rw [List.length_append, hCl]; rfl, by rw [List.length_append, hRl]; rfl, hD', ⟨_, List.mem_append_right _ List.mem_cons_self⟩, fun d hd2 => ?_, fun j d hj => ?_, fun j d c hj hjc => ?_, ?_⟩
   ·rcases List.mem_append.1 hd2 with h | h
    ·exact List.mem_append_left _ (hCA d h)
    ·exact List.mem_append_right _ h
   ·by_cases e : j < CL.length
    ·rw [List.getElem?_append_left e] at hj
     exact hC j d hj
    ·have hjl := (List.getElem?_eq_some_iff.1 hj).1
     rw [List.length_append] at hjl
     have hjk : j = k := by simp only [List.length_cons, List.length_nil] at hjl; omega
     rw [List.getElem?_append_right (by omega), show j - CL.length = 0 by omega] at hj
     have hj : (((k + 1 : Nat) : Int), D') = d := by simpa using hj
     rw [← hj, hjk]
     exact ⟨rfl, hD'⟩
   ·by_cases e : j < RL.length
    ·rw [List.getElem?_append_left e] at hj
     exact hR j d c hj hjc
    ·have hjl := (List.getElem?_eq_some_iff.1 hj).1
     rw [List.length_append] at hjl
     have hjk : j = k := by simp only [List.length_cons, List.length_nil] at hjl; omega
     rw [List.getElem?_append_right (by omega), show j - RL.length = 0 by omega] at hj
     have hj : (frR cc.x (cK t L k), (ra, rc)) = d := by simpa using hj
     rw [hjk, hc] at hjc
     cases hjc
     rw [← hj, hjk]
   ·rw [List.length_append, List.length_append, rwS_app, rwS_app]
    exact H3.f3.tl.f3.f4.b2.f4.b3
  ·refine j_two ?_ ?_
   ·refine j_do rfl rfl (wanted_rd rfl) (fun K hK => ?_)
    have hsz := H.size
    refine wp_call2 _ 21 _ _ _ rfl Qv Qv (EntK.out _ _) (frame_ok cc.x (k : Int) D cc.lo cc.lc cc.LL _ rfl hcc.ip hcls hag (hcc.jr.below H.bel)) ?_
    rintro e w5 ⟨D', vr, rfl, hD', G⟩
    rw [p4] at G
    replace H := H.plus G
    refine ⟨_, rfl, hK _ _ (fun _ h => ⟨Its.cons H.o2 (Its.nil _), fun j hj => at_below (h.2 j hj) G.bel⟩) ?_⟩
    clear hK K
    refine qj ?_
    refine j_mv rfl rfl (fun _ _ _ h => h) (wanted_rd rfl) (fun w => run_ext3A _ rfl Qv w) ?_
    refine j_mv rfl rfl (fun _ _ _ h => h) (wanted_rd rfl) (fun w => run_ext3B _ rfl Qv w) ?_
    refine j_mv rfl rfl (fun _ _ _ h => h) (wanted_rd rfl) (fun w => run_ext3C _ rfl Qv w) ?_
    refine j_do rfl rfl (wanted_rd rfl) (fun K hK => ?_)
    refine wp_allocG _ _ rfl ZerK.out (of_decide_eq_true rfl) ?_
    intro w6 m6 k6 z6
    replace H := H.add k6 (vhI _ _ _ _ _) m6 (fun j e => Nat.le_of_eq e.symm)
    refine hK _ _ (fun _ h => ⟨Its.cons H.o3 (Its.nil _), fun j hj => at_below (h.2 j hj) k6⟩) ?_
    clear hK K
    refine hcut _ _ ⟨_, D', vr, (szL _ _).trans hs, (defL _ _).trans hd, Qv, Qv, Qv, Qv, Qv, Qv, Eq.trans Qv (by rw [eF]), Qv, Eq.trans Qv (by rw [p1, hE]), fun i hi => (hD' i hi).trans (eN i hi), ?_⟩
    exact (agI_base (ownI_base H.f1 hsz).f2 hsz).b2.b1
   ·refine j_do rfl rfl (wanted_rd rfl) (fun K hK => ?_)
    refine wp_allocG _ _ rfl ZerK.out (of_decide_eq_true rfl) ?_
    intro w6 m6 k6 z6
    replace H := H.add k6 (vhI _ _ _ _ _) m6 (fun j e => Nat.le_of_eq e.symm)
    refine hK _ _ (fun _ h => ⟨Its.cons H.o1 (Its.nil _), fun j hj => at_below (h.2 j hj) k6⟩) ?_
    clear hK K
    refine j_do rfl rfl (wanted_rd rfl) (fun K hK => ?_)
    have hsz := H.size
    refine wp_call2 _ 21 _ _ _ rfl Qv Qv (EntK.out _ _) (frame_ok cc.x (k : Int) D cc.lo cc.lc cc.LL _ rfl hcc.ip hcls (fun i hi => (hag i hi).below k6) (hcc.jr.below H.bel)) ?_
    rintro e w5 ⟨D', vr, rfl, hD', G⟩
    rw [p4] at G
    replace H := H.plus G
    refine ⟨_, rfl, hK _ _ (fun _ h => ⟨Its.cons H.o3 (Its.nil _), fun j hj => at_below (h.2 j hj) G.bel⟩) ?_⟩
    clear hK K
    refine qj ?_
    refine j_mv rfl rfl (fun _ _ _ h => h) (wanted_rd rfl) (fun w => run_ext3A _ rfl Qv w) ?_
    refine j_mv rfl rfl (fun _ _ _ h => h) (wanted_rd rfl) (fun w => run_ext3B _ rfl Qv w) ?_
    refine j_mv rfl rfl (fun _ _ _ h => h) (wanted_rd rfl) (fun w => run_ext3C _ rfl Qv w) ?_
    refine hcut _ _ ⟨_, D', vr, (szL _ _).trans hs, (defL _ _).trans hd, Qv, Qv, Qv, Qv, Qv, Qv, Eq.trans Qv (by rw [eF]), Qv, Eq.trans Qv (by rw [p1, hE]), fun i hi => (hD' i hi).trans (eN i hi), ?_⟩
    exact ((agI_base (ownI_base H hsz).f1 hsz).f1).f2
 ·obtain rfl : k = L.length := by have := of_decide_eq_false h; omega
  refine c_exit (x_out' ?_)
  refine c_rs ?_
  repeat first | refine qa ?_ | refine l_nx ?_
  refine c_ret (ret_of ((defL _ _).trans hd) (res_t3 rfl Qv Qv Qv) ⟨v1, v2, CL, RL, rfl, hCl, hRl, hC, hR, ?_⟩)
  exact (H.tl.wk (y := listI (fun d : Int × (Nat → Nd × Ad) => agI w.heap.size d.2) CL) (fun h x hx => h x (hCA x hx)) (fun j ⟨x, hx, hj⟩ => ⟨x, hCA x hx, hj⟩)).f1
end Go.Proofs.YtdhblehhgpdpdacGreat
namespace Go.Proofs.YtdhblehhgpdpdacGreat
open Go.RowKit
theorem run_eqI4 (d : Nat) (a b c e : Int) (w : World) : (Op.equalIn (d + 1 + 1) 48 (.agg #[.int .i64 a, .int .i64 b, .int .i64 c, .int .i64 e]) (.agg #[.int .i64 a, .int .i64 b, .int .i64 c, .int .i64 e])).run Tryz.prog w = .ok true w := by
 have u3 := Tryz.underlying3
 have a3 := Tryz.isAgg3
 have z3 := Tryz.sizeOf3
 have ta : (a == a) = true := by simp
 have tb : (b == b) = true := by simp
 have tc : (c == c) = true := by simp
 have td : (e == e) = true := by simp
 rw [Op.equalIn]
 simp only [Sem.run_bind, run_underlying Tryz.underlying48, Result.andThen_ok]
 simp only [Std.Legacy.Range.forIn_eq_forIn_range', Std.Legacy.Range.size, Nat.sub_zero, Nat.add_sub_cancel, Nat.div_one, List.range'_succ, List.range'_zero, List.forIn_cons, List.forIn_nil]
 go_simp
theorem run_eqB4 (d : Nat) (a b c e : Bool) (w : World) : (Op.equalIn (d + 1 + 1) 47 (.agg #[.bool a, .bool b, .bool c, .bool e]) (.agg #[.bool a, .bool b, .bool c, .bool e])).run Tryz.prog w = .ok true w := by
 have u3 := Tryz.underlying4
 have a3 := Tryz.isAgg4
 have z3 := Tryz.sizeOf4
 have ta : (a == a) = true := by simp
 have tb : (b == b) = true := by simp
 have tc : (c == c) = true := by simp
 have td : (e == e) = true := by simp
 rw [Op.equalIn]
 simp only [Sem.run_bind, run_underlying Tryz.underlying47, Result.andThen_ok]
 simp only [Std.Legacy.Range.forIn_eq_forIn_range', Std.Legacy.Range.size, Nat.sub_zero, Nat.add_sub_cancel, Nat.div_one, List.range'_succ, List.range'_zero, List.forIn_cons, List.forIn_nil]
 go_simp
end Go.Proofs.YtdhblehhgpdpdacGreat
namespace Go.Proofs.YtdhblehhgpdpdacGreat
open Go.RowKit
theorem run_eqSt (d : Nat) (s : St) (w : World) : (Op.equalIn (d + 1 + 1) 45 (.agg #[.int .i64 (s).X, .int .i64 (s).V, .int .i64 (s).P00, .int .i64 (s).P01, .int .i64 (s).P11, .bool (s).B, .int .i64 (s).M]) (.agg #[.int .i64 (s).X, .int .i64 (s).V, .int .i64 (s).P00, .int .i64 (s).P01, .int .i64 (s).P11, .bool (s).B, .int .i64 (s).M])).run Tryz.prog w = .ok true w := by
 have u3 := Tryz.underlying3
 have a3 := Tryz.isAgg3
 have z3 := Tryz.sizeOf3
 have u4 := Tryz.underlying4
 have a4 := Tryz.isAgg4
 have z4 := Tryz.sizeOf4
 have tX : (s.X == s.X) = true := by simp
 have tV : (s.V == s.V) = true := by simp
 have tP00 : (s.P00 == s.P00) = true := by simp
 have tP01 : (s.P01 == s.P01) = true := by simp
 have tP11 : (s.P11 == s.P11) = true := by simp
 have tB : (s.B == s.B) = true := by simp
 have tM : (s.M == s.M) = true := by simp
 rw [Op.equalIn]
 simp only [Sem.run_bind, run_underlying Tryz.underlying45, Result.andThen_ok]
 go_simp
set_option maxRecDepth 100000 in
theorem run_eqlSt3A (a : Nat → St) (w : World) : (Op.equalIn 10000 46 (.agg #[.int .i64 (a 0).X, .int .i64 (a 0).V, .int .i64 (a 0).P00, .int .i64 (a 0).P01, .int .i64 (a 0).P11, .bool (a 0).B, .int .i64 (a 0).M, .int .i64 (a 1).X, .int .i64 (a 1).V, .int .i64 (a 1).P00, .int .i64 (a 1).P01, .int .i64 (a 1).P11, .bool (a 1).B, .int .i64 (a 1).M, .int .i64 (a 2).X, .int .i64 (a 2).V, .int .i64 (a 2).P00, .int .i64 (a 2).P01, .int .i64 (a 2).P11, .bool (a 2).B, .int .i64 (a 2).M]) (.agg #[.int .i64 (a 0).X, .int .i64 (a 0).V, .int .i64 (a 0).P00, .int .i64 (a 0).P01, .int .i64 (a 0).P11, .bool (a 0).B, .int .i64 (a 0).M, .int .i64 (a 1).X, .int .i64 (a 1).V, .int .i64 (a 1).P00, .int .i64 (a 1).P01, .int .i64 (a 1).P11, .bool (a 1).B, .int .i64 (a 1).M, .int .i64 (a 2).X, .int .i64 (a 2).V, .int .i64 (a 2).P00, .int .i64 (a 2).P01, .int .i64 (a 2).P11, .bool (a 2).B, .int .i64 (a 2).M])).run Tryz.prog w = .ok true w := by
 have u3 := Tryz.underlying45
 have a3 := Tryz.isAgg45
 have z3 := Tryz.sizeOf45
 have h0 : (Op.equalIn (9997 + 1 + 1) 45 (.agg #[.int .i64 (a 0).X, .int .i64 (a 0).V, .int .i64 (a 0).P00, .int .i64 (a 0).P01, .int .i64 (a 0).P11, .bool (a 0).B, .int .i64 (a 0).M]) (.agg #[.int .i64 (a 0).X, .int .i64 (a 0).V, .int .i64 (a 0).P00, .int .i64 (a 0).P01, .int .i64 (a 0).P11, .bool (a 0).B, .int .i64 (a 0).M])).run Tryz.prog w = .ok true w := run_eqSt 9997 (a 0) w
 have h1 : (Op.equalIn (9997 + 1 + 1) 45 (.agg #[.int .i64 (a 1).X, .int .i64 (a 1).V, .int .i64 (a 1).P00, .int .i64 (a 1).P01, .int .i64 (a 1).P11, .bool (a 1).B, .int .i64 (a 1).M]) (.agg #[.int .i64 (a 1).X, .int .i64 (a 1).V, .int .i64 (a 1).P00, .int .i64 (a 1).P01, .int .i64 (a 1).P11, .bool (a 1).B, .int .i64 (a 1).M])).run Tryz.prog w = .ok true w := run_eqSt 9997 (a 1) w
 have h2 : (Op.equalIn (9997 + 1 + 1) 45 (.agg #[.int .i64 (a 2).X, .int .i64 (a 2).V, .int .i64 (a 2).P00, .int .i64 (a 2).P01, .int .i64 (a 2).P11, .bool (a 2).B, .int .i64 (a 2).M]) (.agg #[.int .i64 (a 2).X, .int .i64 (a 2).V, .int .i64 (a 2).P00, .int .i64 (a 2).P01, .int .i64 (a 2).P11, .bool (a 2).B, .int .i64 (a 2).M])).run Tryz.prog w = .ok true w := run_eqSt 9997 (a 2) w
 rw [show (10000 : Nat) = 9997 + 1 + 1 + 1 from rfl, Op.equalIn]
 simp only [Sem.run_bind, run_underlying Tryz.underlying46, Result.andThen_ok]
 simp only [Std.Legacy.Range.forIn_eq_forIn_range', Std.Legacy.Range.size, Nat.sub_zero, Nat.add_sub_cancel, Nat.div_one, List.range'_succ, List.range'_zero, List.forIn_cons, List.forIn_nil]
 go_simp
theorem ndF_axs (n : Nd) (v : Value) : ∀ j, j < 21 → ndF n v (0 + 6 + j) = (fun j => nstF (n.ax (j / 7)) (j % 7)) j := by
 intro j hj
 unfold ndF
 rw [if_neg (by omega), if_neg (by omega), if_pos (by omega), show 0 + 6 + j - 6 = j by omega]
end Go.Proofs.YtdhblehhgpdpdacGreat
namespace Go.Proofs.YtdhblehhgpdpdacGreat
open Go.RowKit
set_option maxRecDepth 100000 in
theorem run_neqSt3N {f : Operand → Value} {o : Oper} (x y : Operand) (ho : o.op = .binOp .neq 46 x y 46) {a : Nat → St} (hx : f x = agV (fun j => nstF (a (j / 7)) (j % 7)) 0 21) (hy : f y = agV (fun j => nstF (a (j / 7)) (j % 7)) 0 21) (w : World) : (execOp f o).run Tryz.prog w = .ok (.value (.bool false)) w := by
 have hx' : f x = .agg #[.int .i64 (a 0).X, .int .i64 (a 0).V, .int .i64 (a 0).P00, .int .i64 (a 0).P01, .int .i64 (a 0).P11, .bool (a 0).B, .int .i64 (a 0).M, .int .i64 (a 1).X, .int .i64 (a 1).V, .int .i64 (a 1).P00, .int .i64 (a 1).P01, .int .i64 (a 1).P11, .bool (a 1).B, .int .i64 (a 1).M, .int .i64 (a 2).X, .int .i64 (a 2).V, .int .i64 (a 2).P00, .int .i64 (a 2).P01, .int .i64 (a 2).P11, .bool (a 2).B, .int .i64 (a 2).M] := hx
 have hy' : f y = .agg #[.int .i64 (a 0).X, .int .i64 (a 0).V, .int .i64 (a 0).P00, .int .i64 (a 0).P01, .int .i64 (a 0).P11, .bool (a 0).B, .int .i64 (a 0).M, .int .i64 (a 1).X, .int .i64 (a 1).V, .int .i64 (a 1).P00, .int .i64 (a 1).P01, .int .i64 (a 1).P11, .bool (a 1).B, .int .i64 (a 1).M, .int .i64 (a 2).X, .int .i64 (a 2).V, .int .i64 (a 2).P00, .int .i64 (a 2).P01, .int .i64 (a 2).P11, .bool (a 2).B, .int .i64 (a 2).M] := hy
 clear hx hy
 have h0 := run_eqlSt3A a w
 unfold execOp
 rw [ho]
 dsimp only
 rw [hx', hy']
 go_simp
set_option maxRecDepth 100000 in
theorem run_neqRlN {f : Operand → Value} {o : Oper} (x y : Operand) (ho : o.op = .binOp .neq 50 x y 50) {r : Rl} (hx : f x = rollV r) (hy : f y = rollV r) (w : World) :
  (execOp f o).run Tryz.prog w = .ok (.value (.bool false)) w := by
 have h0 : (Op.equalIn 9999 47 (.agg #[.bool (r.I 0), .bool (r.I 1), .bool (r.I 2), .bool (r.I 3)]) (.agg #[.bool (r.I 0), .bool (r.I 1), .bool (r.I 2), .bool (r.I 3)])).run Tryz.prog w = .ok true w := run_eqB4 9997 (r.I 0) (r.I 1) (r.I 2) (r.I 3) w
 have h1 : (Op.equalIn 9999 48 (.agg #[.int .i64 (r.M 0), .int .i64 (r.M 1), .int .i64 (r.M 2), .int .i64 (r.M 3)]) (.agg #[.int .i64 (r.M 0), .int .i64 (r.M 1), .int .i64 (r.M 2), .int .i64 (r.M 3)])).run Tryz.prog w = .ok true w := run_eqI4 9997 (r.M 0) (r.M 1) (r.M 2) (r.M 3) w
 have h2 : (Op.equalIn 9999 48 (.agg #[.int .i64 (r.J 0), .int .i64 (r.J 1), .int .i64 (r.J 2), .int .i64 (r.J 3)]) (.agg #[.int .i64 (r.J 0), .int .i64 (r.J 1), .int .i64 (r.J 2), .int .i64 (r.J 3)])).run Tryz.prog w = .ok true w := run_eqI4 9997 (r.J 0) (r.J 1) (r.J 2) (r.J 3) w
 unfold rollV at hx hy
 unfold execOp
 rw [ho]
 dsimp only
 rw [hx, hy]
 go_simp
end Go.Proofs.YtdhblehhgpdpdacGreat
namespace Go.Proofs.YtdhblehhgpdpdacGreat
open Go.RowKit
def t1 : Tn := ⟨4294967296, 0, 4294967296, 429496729600⟩
def rdA1 (_ a : Nat) : Int := if a = 0 then 4294967296 else 0
def x1 : Ip := ⟨rdA1, -1, []⟩
theorem t1_ok : t1.Ok := ⟨by unfold R64 t1; decide, by unfold R64 t1; decide, by unfold R64 t1; decide, by unfold R64 t1; decide⟩
theorem x1_ok : IpOK x1 := ⟨fun s a => by show R64 (rdA1 s a); unfold rdA1; split <;> (unfold R64; decide), by unfold R64 x1; decide, fun y hy => by cases hy⟩
theorem hE1 : frE x1 (begC t1) = 0 := frE_zero (by unfold x1; decide) (show (0 : Int) ≤ 0 ∧ (0 : Int) ≤ 1073741823 by decide) (Nat.zero_le _) (fun i hi => (begC_inv t1 (-1)).id i hi)
theorem frR1 : frR x1 (begC t1) = [frN x1 (begC t1) 0, frN x1 (begC t1) 1, frN x1 (begC t1) 2, frN x1 (begC t1) 3] := by
 unfold frR
 rw [if_pos hE1]
 rfl
theorem al_strong : (frN x1 (begC t1) 3).vS = true := by
 have h := begC_inv t1 (-1)
 rw [fr_good h rfl hE1 (by decide) (by decide)]
 exact (jud_three hE1 (by decide) (by decide) (vt_all h rfl hE1 (by decide) (by decide))).2.1
theorem al_us {i : Nat} (hi : i < 4) : (frN x1 (begC t1) i).us 0 = 4294967296 := by
 have h := us_within (begC_inv t1 (-1)) rfl hE1 hi (by omega) (show 0 < 3 by decide) (lo := 4294967296) (hi' := 4294967296) (fun s _ _ => ⟨Int.le_refl _, Int.le_refl _⟩)
 omega
theorem al_used : (frN x1 (begC t1) 2).us 0 = 4294967296 := al_us (by decide)
theorem al_used1 : (frN x1 (begC t1) 1).us 0 = 4294967296 := al_us (by decide)
theorem al_place : 0 < ((frN x1 (begC t1) 1).ax 0).X := by
 rw [ax_follow (begC_inv t1 (-1)) rfl hE1 (by decide) (by decide), al_used1]
 show 0 < (stepS ((begN ((1 : Nat) : Int) t1).ax 0) t1 4294967296).X
 rw [begN_at t1 (by decide)]
 decide +kernel
section
variable {f : Operand → Value} {o : Oper}
theorem run_bldT1 (ho : o.op = .build 23 #[(0, .const (.int .i64 4294967296)), (2, .const (.int .i64 4294967296)), (3, .const (.int .i64 429496729600))]) (hc : ∀ v, f (.const v) = v) (w : World) : (execOp f o).run Tryz.prog w = .ok (.value (agV (ntnF t1) 0 4)) w := by
 unfold execOp
 rw [ho]
 simp only [List.map_toArray, List.map_cons, List.map_nil, hc]
 kernel_rfl
theorem run_bldR1 (ho : o.op = .build 27 #[(0, .const (.int .i64 4294967296))]) (hc : ∀ v, f (.const v) = v) (w : World) : (execOp f o).run Tryz.prog w = .ok (.value (agV (fun j => iV (rdA1 0 j)) 0 3)) w := by
 unfold execOp
 rw [ho]
 simp only [List.map_toArray, List.map_cons, List.map_nil, hc]
 kernel_rfl
theorem run_bldR4 {a b c d : Operand} (ho : o.op = .build 28 #[(0, a), (1, b), (2, c), (3, d)]) (ha : f a = agV (fun j => iV (rdA1 0 j)) 0 3) (hb : f b = agV (fun j => iV (rdA1 0 j)) 0 3) (hc : f c = agV (fun j => iV (rdA1 0 j)) 0 3) (hd : f d = agV (fun j => iV (rdA1 0 j)) 0 3) (w : World) : (execOp f o).run Tryz.prog w = .ok (.value (agV (rd4F rdA1) 0 12)) w := by
 unfold execOp
 rw [ho]
 simp only [List.map_toArray, List.map_cons, List.map_nil, ha, hb, hc, hd]
 kernel_rfl
theorem run_bldIn {a : Operand} (ho : o.op = .build 31 #[(0, a), (1, .const (.int .i64 (-1)))]) (ha : f a = agV (rd4F rdA1) 0 12) (hc : ∀ v, f (.const v) = v) (w : World) : (execOp f o).run Tryz.prog w = .ok (.value (agV (ipF rdA1 (-1) (.slice none 0 0)) 0 14)) w := by
 unfold execOp
 rw [ho]
 simp only [List.map_toArray, List.map_cons, List.map_nil, ha, hc]
 kernel_rfl
end
end Go.Proofs.YtdhblehhgpdpdacGreat
namespace Go.Proofs.YtdhblehhgpdpdacGreat
open Go.RowKit
theorem rpF2 (n : Nd) : rpF n 2 = .int .i64 (n.us 0) := rfl
theorem rpF5 (n : Nd) : rpF n 5 = .int .i64 (n.ax 0).X := rfl
theorem rpF9 (n : Nd) : rpF n 9 = .bool n.vS := rfl
set_option maxHeartbeats 2000000 in
theorem alive_any (w : World) : Calls Tryz.prog 12 #[] w fun e w' => e = .returned (.bool true) ∧ Below w.heap.size w w' := by
 refine enterF Tryz.func12 rfl 51 rfl (of_decide_eq_true rfl) (fun A hs hd hb => ?_)
 clear hb
 have H := Cx.start w
 refine c_rs (m_start ?_)
 refine qa ?_
 refine l_nx ?_
 refine c_rs ?_
 refine qg (run_bldT1 rfl (fun _ => rfl) _) ?_
 refine q_c1 (clBegin_ok t1 w t1_ok) ?_
 rintro e w1 ⟨D, rfl, hD, G⟩
 refine ⟨_, rfl, ?_⟩
 replace H := H.plus G
 iterate 4 refine qg (run_bldR1 rfl (fun _ => rfl) _) ?_
 refine qg (run_bldR4 rfl Qv Qv Qv Qv _) ?_
 refine qg (run_bldIn rfl Qv (fun _ => rfl) _) ?_
 have hag : ∀ i, i < 4 → AgRd w1 (D i).1 (D i).2.1 (D i).2.2 := fun i hi => by
  have ho : World.ownsRow _ _ _ _ _ _ _ := H.o0 i hi
  obtain ⟨a3, c3, e, hs3, _⟩ := owns_sr ho
  cases e
  exact hs3
 have hcls : ClsOK ⟨0, fun i => (D i).1⟩ := ⟨R64_zero, fun i hi => by show NdOK (D i).1; rw [hD i hi]; exact begN_okC t1_ok hi⟩
 obtain ⟨p1, p2, p3, p4⟩ := frC_congr (x := x1) (c := begC t1) (fr := 0) (D := D) rfl hD
 have hfr := frame_ok x1 0 D none 0 [] w1 rfl x1_ok hcls hag ⟨fun h => absurd h (Nat.lt_irrefl _), fun _ h => (by cases h)⟩
 change Calls _ _ #[agV (clG 0 D) 0 297, agV (ipF rdA1 (-1) (.slice none 0 0)) 0 14] _ _ at hfr
 refine q_c2 hfr ?_
 clear hfr
 rintro e w2 ⟨D', v, rfl, hD', G2⟩
 refine ⟨_, rfl, ?_⟩
 replace H := H.plus G2
 refine qa ?_
 refine qg (run_ext3A _ rfl Qv _) ?_
 refine qg (run_ext3B _ rfl Qv _) ?_
 refine qg (run_ext3C _ rfl Qv _) ?_
 refine q_al H ?_
 intro w3 H z3
 refine q_sp0 H stP_whole (clG_one _ _) ?_
 intro w4 H z4
 iterate 2 refine qa ?_
 refine l_nx ?_
 refine c_rs ?_
 rw [p4, frR1] at H
 have hrow : World.ownsRow _ _ _ _ _ _ _ := H.o1
 obtain ⟨g, cap, rfl, _, hcell⟩ := rwS_rd hrow (show 0 < 4 by decide) (by decide)
 have eF : (frC x1 ⟨0, fun i => (D i).1⟩).fr = 1 := by rw [p2]; unfold frC; rw [if_pos hE1]; rfl
 have c3 : w4.cell? ⟨g, 0 + 3 * 14 + 9, none⟩ = some (.bool true) := by
  have := hcell 3 _ rfl 9 (by decide)
  rw [this, rpF9, al_strong]
 have c2 : w4.cell? ⟨g, 0 + 2 * 14 + 2 + 0 * 1, none⟩ = some (.int .i64 ((frN x1 (begC t1) 2).us 0)) := by
  have h2 := hcell 2 (frN x1 (begC t1) 2) rfl 2 (by decide)
  rw [show 0 + 2 * 14 + 2 + 0 * 1 = 0 + 2 * 14 + 2 by decide, h2, rpF2]
 have c1 : w4.cell? ⟨g, 0 + 1 * 14 + 5 + 0 * 1, none⟩ = some (.int .i64 ((frN x1 (begC t1) 1).ax 0).X) := by
  have h2 := hcell 1 (frN x1 (begC t1) 1) rfl 5 (by decide)
  rw [show 0 + 1 * 14 + 5 + 0 * 1 = 0 + 1 * 14 + 5 by decide, h2, rpF5]
 refine qa ?_
 refine qg (run_eqlE (b := true) _ _ rfl Qv Qv (decide_eq_true (p1.trans hE1)) _) ?_
 iterate 2 refine qa ?_
 refine qg (LenK.run rfl Qv _) ?_
 refine qg (run_eqlI (b := true) _ _ rfl Qv Qv (decide_eq_true rfl) _) ?_
 refine qg (run_pickT' _ _ _ rfl Qv Qv _) ?_
 iterate 3 refine qa ?_
 refine qg (run_eqlI (b := true) _ _ rfl Qv Qv (decide_eq_true eF) _) ?_
 refine qg (run_pickT' _ _ _ rfl Qv Qv _) ?_
 iterate 2 refine qa ?_
 refine qg (run_ixSC (i := 3) _ _ _ _ rfl SlcK.out SizK.out Qv Qv rfl (show 3 < 4 by decide) _) ?_
 refine qa ?_
 refine qg (run_lodb _ rfl Qv c3) ?_
 refine qg (run_pickT' _ _ _ rfl Qv Qv _) ?_
 iterate 2 refine qa ?_
 refine qg (run_ixSC (i := 2) _ _ _ _ rfl SlcK.out SizK.out Qv Qv rfl (show 2 < 4 by decide) _) ?_
 refine qa ?_
 refine qg (run_ixG (i := 0) _ _ _ _ rfl ArrK.out SizK.out Qv Qv rfl (by decide) _) ?_
 refine qg (run_lodI _ rfl Qv c2) ?_
 refine qg (run_eqlI (b := true) _ _ rfl Qv Qv (decide_eq_true al_used) _) ?_
 refine qg (run_pickT' _ _ _ rfl Qv Qv _) ?_
 iterate 2 refine qa ?_
 refine qg (run_ixSC (i := 1) _ _ _ _ rfl SlcK.out SizK.out Qv Qv rfl (show 1 < 4 by decide) _) ?_
 refine qa ?_
 refine qg (run_ixG (i := 0) _ _ _ _ rfl ArrK.out SizK.out Qv Qv rfl (by decide) _) ?_
 refine qg (run_lodI _ rfl Qv c1) ?_
 refine qg (run_gtrI (b := true) _ _ rfl Qv Qv (decide_eq_true al_place) _) ?_
 refine qg (run_pickT' _ _ _ rfl Qv Qv _) ?_
 refine qa ?_
 refine l_nx ?_
 exact c_ret (ret_of ((defL _ _).trans hd) (res_t rfl Qv) ⟨rfl, H.bel⟩)
end Go.Proofs.YtdhblehhgpdpdacGreat
namespace Go.Proofs.YtdhblehhgpdpdacGreat
open Go.RowKit
def OneB (bad : Int) (L : List Li) : Prop := ∀ c, c ∈ L → c.bad = bad
theorem cK_nd {t : Tn} {L : List Li} (h : InOK L) {k : Nat} {c : Li} (hc : L[k]? = some c) (i : Nat) : (cK t L (k + 1)).nd i = frN c.x (cK t L k) i := by
 have hk := (List.getElem?_eq_some_iff.1 hc).1
 rw [cK_succ hc]
 unfold frC
 rw [if_pos ((cK_ok (t := t) h k (by omega)).2.2 c hc)]
theorem oneM_in {bad : Int} {L : List Li} {n : Nat} (hn : n ≤ 1000) (h : -1 ≤ bad ∧ bad < 4) : InOK (oneM bad L n) := ⟨by unfold oneM; rw [List.length_map, List.length_take]; omega, fun c hc => by
 unfold oneM at hc
 obtain ⟨d, _, rfl⟩ := List.mem_map.1 hc
 refine ⟨h, ?_⟩
 show (d.LL.take 400).length ≤ 400
 rw [List.length_take]; omega⟩
theorem oneM_one {bad : Int} {L : List Li} {n : Nat} : OneB bad (oneM bad L n) := fun c hc => by
 unfold oneM at hc
 obtain ⟨d, _, rfl⟩ := List.mem_map.1 hc
 rfl
theorem oneM_ok {bad : Int} {L : List Li} {n : Nat} {w : World} (h : ∀ c, c ∈ L → LiOK w c) (hb : R64 bad) : ∀ c, c ∈ oneM bad L n → LiOK w c := fun c hc => by
 unfold oneM at hc
 obtain ⟨d, hd, rfl⟩ := List.mem_map.1 hc
 exact oneL_ok (h d (List.mem_of_mem_take hd)) hb
end Go.Proofs.YtdhblehhgpdpdacGreat
namespace Go.Proofs.YtdhblehhgpdpdacGreat
open Go.RowKit
theorem qj_skip {P : Program} {ops : Array Oper} {Q : Exit → Act → World → Prop} {A : Act} {L : List (Nat × Value)} {w : World} {o : Oper} {d : Nat} {S : World → Prop} {late : Nat → Bool} {i : Nat} {r : PlanJ} (h : SeqJ P ops Q S late r (putL A ((d, undef) :: L)) w) (ho : ops[i]? = some o := by rfl) (hd : o.dst = some d := by rfl) (hQ : ∀ c a w, Q (.panic c) (a.put (some d) undef) w → Q (.panic c) a w := by exact fun _ _ _ h => h) (hw : Region.wanted o (yielded ops (putL A L).tmps) = false := by first | exact wanted_n rfl rfl rfl Qv (by decide) | exact wanted_u rfl rfl rfl Qv) : SeqJ P ops Q S late (.mv i r) (putL A L) w := j_skip ho hd hQ hw h
theorem clH_at (d : Int × (Nat → Nd × Ad)) {i j : Nat} (hj : j < 74) : clH d (0 + 1 + i * 74 + j) = ndF (d.2 i).1 (slV (d.2 i).2 (d.2 i).1.vA.length) j := by
 show clG d.1 d.2 _ = _
 rw [show 0 + 1 + i * 74 + j = 1 + i * 74 + j by omega]
 exact clF_nd _ _ _ hj
end Go.Proofs.YtdhblehhgpdpdacGreat
namespace Go.Proofs.YtdhblehhgpdpdacGreat
open Go.RowKit
theorem run_lodX {P : Program} {f : Operand → Value} {o : Oper} {ty : TypeId} {x : Operand} (T : OneC P ty) {b off : Nat} {v : Value} {w : World} (hc : w.cell? ⟨b, off, none⟩ = some v) (ho : o.op = .load ty x) (hx : f x = .pointer (some ⟨b, off, none⟩)) : (execOp f o).run P w = .ok (.value v) w := by
 unfold execOp
 simp only [ho, hx, Instr.loadAt, Instr.sureAddr, loadVar, Sem.run_bind, Sem.run_pure, Result.andThen_ok, T.agg]
 go_simp
instance : ZerK Tryz.prog 53 3 (nvdF 0 false (.slice none 0 0)) := ⟨fun w => by kernel_rfl⟩
end Go.Proofs.YtdhblehhgpdpdacGreat
namespace Go.Proofs.YtdhblehhgpdpdacGreat
open Go.RowKit
structure Twn (n m : Nd) : Prop where
 ax : ∀ a, a < 3 → n.ax a = m.ax a
 rl : RlE n.rl m.rl
 ag : ∀ s a, s < 4 → a < 3 → n.ag s a = m.ag s a
 us : ∀ a, a < 3 → n.us a = m.us a
 dg : n.dg = m.dg
 fr : n.fr = m.fr
 vX : n.vX = m.vX
 vS : n.vS = m.vS
 vA : n.vA = m.vA
section
variable {n m : Nd} {v u : Value}
theorem own_ax : agV (ndF n v) (0 + 6) 21 = agV (fun j => nstF (n.ax (j / 7)) (j % 7)) 0 21 := agV_cong (ndF_axs n v)
theorem own_rl : agV (ndF n v) (0 + 27) 12 = rollV n.rl := by
 rw [agV_cong (ndF_rl n v)]
 rfl
end
end Go.Proofs.YtdhblehhgpdpdacGreat
namespace Go.Proofs.YtdhblehhgpdpdacGreat
open Go.RowKit
end Go.Proofs.YtdhblehhgpdpdacGreat
namespace Go.Proofs.YtdhblehhgpdpdacGreat
open Go.RowKit
section
variable {t : Tn} {bad : Int} {L : List Li} {k : Nat} {c : Li}
end
end Go.Proofs.YtdhblehhgpdpdacGreat
namespace Go.Proofs.YtdhblehhgpdpdacGreat
open Go.RowKit
theorem rpF8 (n : Nd) : rpF n 8 = .int .i64 n.dg := rfl
theorem nd_in (n : Nd) (v : Value) : agV (ndF n v) (0 + 27 + 0) 4 = agV (fun j => .bool (n.rl.I j)) 0 4 := agV_cong (fun j hj => by
 match j, hj with
 | 0, _ => rfl
 | 1, _ => rfl
 | 2, _ => rfl
 | 3, _ => rfl)
set_option maxRecDepth 100000 in
theorem run_neqB4N {f : Operand → Value} {o : Oper} (x y : Operand) (ho : o.op = .binOp .neq 47 x y 47) {g : Nat → Bool} (hx : f x = agV (fun j => .bool (g j)) 0 4) (hy : f y = agV (fun j => .bool (g j)) 0 4) (w : World) : (execOp f o).run Tryz.prog w = .ok (.value (.bool false)) w := by
 have hx' : f x = .agg #[.bool (g 0), .bool (g 1), .bool (g 2), .bool (g 3)] := hx
 have hy' : f y = .agg #[.bool (g 0), .bool (g 1), .bool (g 2), .bool (g 3)] := hy
 clear hx hy
 have h0 := run_eqB4 9998 (g 0) (g 1) (g 2) (g 3) w
 unfold execOp
 rw [ho]
 dsimp only
 rw [hx', hy']
 go_simp
end Go.Proofs.YtdhblehhgpdpdacGreat
namespace Go.Proofs.YtdhblehhgpdpdacGreat
open Go.RowKit
theorem st_ext {s r : St} (e1 : s.X = r.X) (e2 : s.V = r.V) (e3 : s.P00 = r.P00) (e4 : s.P01 = r.P01) (e5 : s.P11 = r.P11) (e6 : s.B = r.B) (e7 : s.M = r.M) : s = r := by
 cases s
 cases r
 simp only at e1 e2 e3 e4 e5 e6 e7
 subst e1 e2 e3 e4 e5 e6 e7
 rfl
set_option maxRecDepth 100000 in
theorem eqSt3_any (a c : Nat → St) (w : World) : ∃ b, (Op.equalIn 10000 46 (.agg #[.int .i64 (a 0).X, .int .i64 (a 0).V, .int .i64 (a 0).P00, .int .i64 (a 0).P01, .int .i64 (a 0).P11, .bool (a 0).B, .int .i64 (a 0).M, .int .i64 (a 1).X, .int .i64 (a 1).V, .int .i64 (a 1).P00, .int .i64 (a 1).P01, .int .i64 (a 1).P11, .bool (a 1).B, .int .i64 (a 1).M, .int .i64 (a 2).X, .int .i64 (a 2).V, .int .i64 (a 2).P00, .int .i64 (a 2).P01, .int .i64 (a 2).P11, .bool (a 2).B, .int .i64 (a 2).M]) (.agg #[.int .i64 (c 0).X, .int .i64 (c 0).V, .int .i64 (c 0).P00, .int .i64 (c 0).P01, .int .i64 (c 0).P11, .bool (c 0).B, .int .i64 (c 0).M, .int .i64 (c 1).X, .int .i64 (c 1).V, .int .i64 (c 1).P00, .int .i64 (c 1).P01, .int .i64 (c 1).P11, .bool (c 1).B, .int .i64 (c 1).M, .int .i64 (c 2).X, .int .i64 (c 2).V, .int .i64 (c 2).P00, .int .i64 (c 2).P01, .int .i64 (c 2).P11, .bool (c 2).B, .int .i64 (c 2).M])).run Tryz.prog w = .ok b w ∧ (b = true → ∀ i, i < 3 → a i = c i) := by
 by_cases h : ∀ i, i < 3 → a i = c i
 ·refine ⟨true, ?_, fun _ => h⟩
  rw [h 0 (by omega), h 1 (by omega), h 2 (by omega)]
  exact run_eqlSt3A c w
 ·refine ⟨false, ?_, fun h => (by cases h)⟩
  have H : (a 0 = c 0 → a 1 = c 1 → a 2 = c 2 → False) := fun h0 h1 h2 => h (fun i hi => by
   match i, hi with
   | 0, _ => exact h0
   | 1, _ => exact h1
   | 2, _ => exact h2)
  have H2 : Hid (a 0 = c 0 → a 1 = c 1 → a 2 = c 2 → False) := hide H
  clear H h
  have u3 := Tryz.underlying45
  have a3 := Tryz.isAgg45
  have z3 := Tryz.sizeOf45
  rw [show (10000 : Nat) = 9997 + 1 + 1 + 1 from rfl, Op.equalIn]
  simp only [Sem.run_bind, run_underlying Tryz.underlying46, Result.andThen_ok]
  simp only [Std.Legacy.Range.forIn_eq_forIn_range', Std.Legacy.Range.size, Nat.sub_zero, Nat.add_sub_cancel, Nat.div_one, List.range'_succ, List.range'_zero, List.forIn_cons, List.forIn_nil]
  go_simp
  intro e1 e2 e3 e4 e5 e6 e7 f1 f2 f3 f4 f5 f6 f7 g1 g2 g3 g4 g5 g6 g7
  exact unhide H2 (st_ext e1 e2 e3 e4 e5 e6 e7) (st_ext f1 f2 f3 f4 f5 f6 f7) (st_ext g1 g2 g3 g4 g5 g6 g7)
theorem eqB4_any (a c : Nat → Bool) (w : World) : ∃ b, (Op.equalIn 9999 47 (.agg #[.bool (a 0), .bool (a 1), .bool (a 2), .bool (a 3)]) (.agg #[.bool (c 0), .bool (c 1), .bool (c 2), .bool (c 3)])).run Tryz.prog w = .ok b w ∧ (b = true → ∀ i, i < 4 → a i = c i) := by
 have u3 := Tryz.underlying4
 have a3 := Tryz.isAgg4
 have z3 := Tryz.sizeOf4
 rw [show (9999 : Nat) = 9997 + 1 + 1 from rfl, Op.equalIn]
 simp only [Sem.run_bind, run_underlying Tryz.underlying47, Result.andThen_ok]
 simp only [Std.Legacy.Range.forIn_eq_forIn_range', Std.Legacy.Range.size, Nat.sub_zero, Nat.add_sub_cancel, Nat.div_one, List.range'_succ, List.range'_zero, List.forIn_cons, List.forIn_nil]
 cases t0 : (a 0 == c 0) with
 | false => exact ⟨false, by go_simp, fun h => (by cases h)⟩
 | true =>
 cases t1 : (a 1 == c 1) with
 | false => exact ⟨false, by go_simp, fun h => (by cases h)⟩
 | true =>
 cases t2 : (a 2 == c 2) with
 | false => exact ⟨false, by go_simp, fun h => (by cases h)⟩
 | true =>
 cases t3 : (a 3 == c 3) with
 | false => exact ⟨false, by go_simp, fun h => (by cases h)⟩
 | true =>
 refine ⟨true, by go_simp, fun _ i hi => ?_⟩
 match i, hi with
 | 0, _ => exact eq_of_beq t0
 | 1, _ => exact eq_of_beq t1
 | 2, _ => exact eq_of_beq t2
 | 3, _ => exact eq_of_beq t3
theorem eqI4_any (a c : Nat → Int) (w : World) : ∃ b, (Op.equalIn 9999 48 (.agg #[.int .i64 (a 0), .int .i64 (a 1), .int .i64 (a 2), .int .i64 (a 3)]) (.agg #[.int .i64 (c 0), .int .i64 (c 1), .int .i64 (c 2), .int .i64 (c 3)])).run Tryz.prog w = .ok b w ∧ (b = true → ∀ i, i < 4 → a i = c i) := by
 have u3 := Tryz.underlying3
 have a3 := Tryz.isAgg3
 have z3 := Tryz.sizeOf3
 rw [show (9999 : Nat) = 9997 + 1 + 1 from rfl, Op.equalIn]
 simp only [Sem.run_bind, run_underlying Tryz.underlying48, Result.andThen_ok]
 simp only [Std.Legacy.Range.forIn_eq_forIn_range', Std.Legacy.Range.size, Nat.sub_zero, Nat.add_sub_cancel, Nat.div_one, List.range'_succ, List.range'_zero, List.forIn_cons, List.forIn_nil]
 cases t0 : (a 0 == c 0) with
 | false => exact ⟨false, by go_simp, fun h => (by cases h)⟩
 | true =>
 cases t1 : (a 1 == c 1) with
 | false => exact ⟨false, by go_simp, fun h => (by cases h)⟩
 | true =>
 cases t2 : (a 2 == c 2) with
 | false => exact ⟨false, by go_simp, fun h => (by cases h)⟩
 | true =>
 cases t3 : (a 3 == c 3) with
 | false => exact ⟨false, by go_simp, fun h => (by cases h)⟩
 | true =>
 refine ⟨true, by go_simp, fun _ i hi => ?_⟩
 match i, hi with
 | 0, _ => exact eq_of_beq t0
 | 1, _ => exact eq_of_beq t1
 | 2, _ => exact eq_of_beq t2
 | 3, _ => exact eq_of_beq t3
set_option maxRecDepth 100000 in
theorem run_neqSt3Y {f : Operand → Value} {o : Oper} (x y : Operand) (ho : o.op = .binOp .neq 46 x y 46) {a c : Nat → St} (hn : ¬ ∀ i, i < 3 → a i = c i) (hx : f x = agV (fun j => nstF (a (j / 7)) (j % 7)) 0 21) (hy : f y = agV (fun j => nstF (c (j / 7)) (j % 7)) 0 21) (w : World) : (execOp f o).run Tryz.prog w = .ok (.value (.bool true)) w := by
 have hx' : f x = .agg #[.int .i64 (a 0).X, .int .i64 (a 0).V, .int .i64 (a 0).P00, .int .i64 (a 0).P01, .int .i64 (a 0).P11, .bool (a 0).B, .int .i64 (a 0).M, .int .i64 (a 1).X, .int .i64 (a 1).V, .int .i64 (a 1).P00, .int .i64 (a 1).P01, .int .i64 (a 1).P11, .bool (a 1).B, .int .i64 (a 1).M, .int .i64 (a 2).X, .int .i64 (a 2).V, .int .i64 (a 2).P00, .int .i64 (a 2).P01, .int .i64 (a 2).P11, .bool (a 2).B, .int .i64 (a 2).M] := hx
 have hy' : f y = .agg #[.int .i64 (c 0).X, .int .i64 (c 0).V, .int .i64 (c 0).P00, .int .i64 (c 0).P01, .int .i64 (c 0).P11, .bool (c 0).B, .int .i64 (c 0).M, .int .i64 (c 1).X, .int .i64 (c 1).V, .int .i64 (c 1).P00, .int .i64 (c 1).P01, .int .i64 (c 1).P11, .bool (c 1).B, .int .i64 (c 1).M, .int .i64 (c 2).X, .int .i64 (c 2).V, .int .i64 (c 2).P00, .int .i64 (c 2).P01, .int .i64 (c 2).P11, .bool (c 2).B, .int .i64 (c 2).M] := hy
 clear hx hy
 obtain ⟨b, h0, g0⟩ := eqSt3_any a c w
 cases b with
 | true => exact absurd (g0 rfl) hn
 | false =>
 clear g0 hn
 unfold execOp
 rw [ho]
 dsimp only
 rw [hx', hy']
 go_simp
set_option maxRecDepth 100000 in
theorem run_neqRlY {f : Operand → Value} {o : Oper} (x y : Operand) (ho : o.op = .binOp .neq 50 x y 50) {r s : Rl} (hn : ¬ RlE r s) (hx : f x = rollV r) (hy : f y = rollV s) (w : World) : (execOp f o).run Tryz.prog w = .ok (.value (.bool true)) w := by
 obtain ⟨b0, h0, g0⟩ := eqB4_any r.I s.I w
 obtain ⟨b1, h1, g1⟩ := eqI4_any r.M s.M w
 obtain ⟨b2, h2, g2⟩ := eqI4_any r.J s.J w
 have hb : (b0 = true → b1 = true → b2 = true → False) := fun e0 e1 e2 => hn (fun i hi => ⟨g0 e0 i hi, g1 e1 i hi, g2 e2 i hi⟩)
 clear hn g0 g1 g2
 unfold rollV at hx hy
 unfold execOp
 rw [ho]
 dsimp only
 rw [hx, hy]
 clear hx hy
 cases b0 with
 | false => clear hb; go_simp
 | true =>
 cases b1 with
 | false => clear hb; go_simp
 | true =>
 cases b2 with
 | false => clear hb; go_simp
 | true => exact absurd rfl (fun e => hb e rfl rfl)
end Go.Proofs.YtdhblehhgpdpdacGreat
namespace Go.Proofs.YtdhblehhgpdpdacGreat
open Go.RowKit
section
variable {t : Tn} {b : Nat} {L M : List Li}
theorem frC_eq {x : Ip} {c : Cl} (hE : frE x c = 0) : frC x c = ⟨c.fr + 1, frN x c⟩ := by unfold frC; rw [if_pos hE]
theorem mix_inv (h : InOK (L ++ M)) (hb : OneB (b : Int) L) : ∀ k, k ≤ L.length → Inv t (b : Int) (cK t (L ++ M) k) ∧ (cK t (L ++ M) k).nd b = begN (b : Nat) t
 | 0, _ => ⟨begC_inv t _, rfl⟩
 | k + 1, hk => by
  obtain ⟨i1, i2⟩ := mix_inv h hb k (by omega)
  have hl : k < L.length := hk
  have hc : (L ++ M)[k]? = some L[k] := by rw [List.getElem?_append_left hl]; exact List.getElem?_eq_getElem hl
  have hE := (cK_ok (t := t) h k (by rw [List.length_append]; omega)).2.2 _ hc
  have e : (L[k]).x.bad = (b : Int) := hb _ (List.getElem_mem hl)
  rw [cK_succ hc, frC_eq hE]
  exact ⟨inv_step i1 e hE, (frN_bad e.symm).trans i2⟩
theorem mix_back (h : InOK (L ++ M)) (hb : OneB (b : Int) L) (hm : OneB (-1) M) (hb4 : b < 4) {g : Nat} (hg : g < 4) (hgb : g ≠ b)
  (hs : ((cK t (L ++ M) (L.length + 1)).nd b).dg = ((cK t (L ++ M) (L.length + 1)).nd g).dg → (∀ a, a < 3 → ((cK t (L ++ M) (L.length + 1)).nd b).ax a = ((cK t (L ++ M) (L.length + 1)).nd g).ax a) ∧ RlE ((cK t (L ++ M) (L.length + 1)).nd b).rl ((cK t (L ++ M) (L.length + 1)).nd g).rl) :
  ∀ q, L.length + q < (L ++ M).length → Al t b q (cK t (L ++ M) (L.length + q + 1)) ∧ (0 < q → ∀ i k, i < 4 → k < 4 → ((cK t (L ++ M) (L.length + q + 1)).nd i).dg = ((cK t (L ++ M) (L.length + q + 1)).nd k).dg) ∧ (3 ≤ q → ∀ i s, i < 4 → s < 4 → ((cK t (L ++ M) (L.length + q + 1)).nd i).rl.I s = true)
 | 0, hq => by
  obtain ⟨i1, i2⟩ := mix_inv (t := t) (M := M) h hb L.length (Nat.le_refl _)
  have hc := List.getElem?_eq_getElem (show L.length < (L ++ M).length from hq)
  have hE := (cK_ok (t := t) h L.length (by omega)).2.2 _ hc
  have e : ((L ++ M)[L.length]'hq).x.bad = -1 := hm _ (by
   rw [List.getElem_append_right (Nat.le_refl _)]
   exact List.getElem_mem _)
  rw [Nat.add_zero]
  have hs' := hs
  rw [cK_succ hc, frC_eq hE] at hs' ⊢
  exact ⟨back_first i1 hb4 i2 e hE hg hgb hs', fun h => by omega, fun h => by omega⟩
 | q + 1, hq => by
  obtain ⟨i1, _, _⟩ := mix_back h hb hm hb4 hg hgb hs q (by omega)
  have hq' : L.length + q + 1 < (L ++ M).length := by omega
  have hc := List.getElem?_eq_getElem hq'
  have hE := (cK_ok (t := t) h (L.length + q + 1) (by omega)).2.2 _ hc
  have e : ((L ++ M)[L.length + q + 1]'hq').x.bad = -1 := hm _ (by
   rw [List.getElem_append_right (by omega)]
   exact List.getElem_mem _)
  have e2 : L.length + (q + 1) + 1 = L.length + q + 1 + 1 := by omega
  rw [e2, cK_succ hc, frC_eq hE]
  obtain ⟨n1, n2, n3⟩ := back_next i1 hb4 e hE
  refine ⟨n1, fun _ => n3, fun h3 i s hi hs => ?_⟩
  by_cases es : s = b
  ·rw [es]; exact n2 (by omega) i hi
  ·exact (n1.on i s hi hs es).1
end
end Go.Proofs.YtdhblehhgpdpdacGreat
namespace Go.Proofs.YtdhblehhgpdpdacGreat
open Go.RowKit
theorem c_midT {P : Program} {Q : Exit → Act → World → Prop} {a : Act} {w : World} {x y : Code} (T : Act → World → Prop) (hx : (∀ A W, T A W → CodI P y Q A W) → CodI P (.seq x y) Q a w) (hy : ∀ A W, T A W → CodI P y Q A W) : CodI P (.seq x y) Q a w := hx hy
theorem c_new {P : Program} {Q : Exit → Act → World → Prop} {a : Act} {w : World} {y : Code} (T : Act → World → Prop) (h0 : T a w) (h : ∀ A W, T A W → CodI P y Q A W) : CodI P y Q a w := h _ _ h0
def gnN (b : Nat) : Nat := if b = 3 then 0 else b + 1
theorem gnN_ok {b : Nat} (h : b < 4) : gnN b < 4 ∧ gnN b ≠ b := by unfold gnN; split <;> omega
theorem run_rem4 {f : Operand → Value} {o : Oper} (x : Operand) (ho : o.op = .binOp .rem 3 x (.const (.int .i64 4)) 3) (hc : ∀ v, f (.const v) = v) {b : Nat} (hb : b < 4) (hx : f x = .int .i64 ((b : Int) + 1)) (w : World) : (execOp f o).run Tryz.prog w = .ok (.value (.int .i64 (gnN b : Nat))) w := by
 unfold execOp
 rw [ho]
 dsimp only
 rw [hx, hc]
 match b, hb with
 | 0, _ => change _ = _; kernel_rfl
 | 1, _ => change _ = _; kernel_rfl
 | 2, _ => change _ = _; kernel_rfl
 | 3, _ => change _ = _; kernel_rfl
theorem run_bldT4' {f : Operand → Value} {o : Oper} (ho : o.op = .build 47 #[(0, .const (.bool true)), (1, .const (.bool true)), (2, .const (.bool true)), (3, .const (.bool true))]) (hc : ∀ v, f (.const v) = v) (w : World) : (execOp f o).run Tryz.prog w = .ok (.value (agV (fun _ => .bool true) 0 4)) w := by
 unfold execOp
 rw [ho]
 simp only [List.map_toArray, List.map_cons, List.map_nil]
 rw [hc]
 change _ = _
 kernel_rfl
theorem frR_four {t : Tn} {L : List Li} {k : Nat} {c : Li} (h : InOK L) (hc : L[k]? = some c) (e : c.x.bad = -1) : frR c.x (cK t L k) = [(cK t L (k + 1)).nd 0, (cK t L (k + 1)).nd 1, (cK t L (k + 1)).nd 2, (cK t L (k + 1)).nd 3] := by
 have hk := (List.getElem?_eq_some_iff.1 hc).1
 have hE := (cK_ok (t := t) h k (by omega)).2.2 c hc
 unfold frR
 rw [if_pos hE, e, cK_nd h hc, cK_nd h hc, cK_nd h hc, cK_nd h hc]
 rfl
theorem four_at {f : Nat → Nd} {i : Nat} (hi : i < 4) : [f 0, f 1, f 2, f 3][i]? = some (f i) := by
 match i, hi with
 | 0, _ => rfl
 | 1, _ => rfl
 | 2, _ => rfl
 | 3, _ => rfl
theorem ax_like {n m : Nd} {u : Value} (h : ∀ a, a < 3 → n.ax a = m.ax a) : agV (ndF m u) (0 + 6) 21 = agV (fun j => nstF (n.ax (j / 7)) (j % 7)) 0 21 := agV_cong (fun j hj => by rw [ndF_axs m u j hj, h (j / 7) (by omega)])
theorem rl_like {n m : Nd} {u : Value} (h : RlE n.rl m.rl) : agV (ndF m u) (0 + 27) 12 = rollV n.rl := by
 rw [agV_cong (f := nrlF n.rl) (fun j hj => by
  rw [ndF_rl m u j hj]
  unfold nrlF
  by_cases c1 : j < 4
  ·rw [if_pos c1, if_pos c1, (h j c1).1]
  ·rw [if_neg c1, if_neg c1]
   by_cases c2 : j < 8
   ·rw [if_pos c2, if_pos c2, (h (j - 4) (by omega)).2.1]
   ·rw [if_neg c2, if_neg c2, (h (j - 8) (by omega)).2.2])]
 rfl
theorem in_like {n : Nd} {v : Value} (h : ∀ s, s < 4 → n.rl.I s = true) : agV (ndF n v) (0 + 27 + 0) 4 = agV (fun _ => .bool true) 0 4 := by
 rw [nd_in]
 exact agV_cong (fun j hj => by rw [Nat.zero_add, h j hj])
set_option maxHeartbeats 4000000 in
theorem topBack_walk {w : World} (t : Tn) (mo : Option Addr) (mc : Nat) (L : List Li) (mo' : Option Addr) (mc' : Nat) (L' : List Li) (bad : Int) (ht : t.Ok) (hr : RdS inpF 14 w mo L) (hok : ∀ c, c ∈ L → LiOK w c) (hr' : RdS inpF 14 w mo' L') (hok' : ∀ c, c ∈ L' → LiOK w c) (_ : R64 bad) :
  Calls Tryz.prog 5 #[agV (ntnF t) 0 4, .slice mo L.length mc, .slice mo' L'.length mc', .int .i64 bad] w fun e w' => e = .returned (.bool true) ∧ Below w.heap.size w w' := by
 refine enterF Tryz.func5 rfl 176 rfl (of_decide_eq_true rfl) (fun A hs hd hb => ?_)
 have b0 : A.eval (.tmp 0) = agV (ntnF t) 0 4 := hb 0 _ rfl
 have b1 : A.eval (.tmp 1) = .slice mo L.length mc := hb 1 _ rfl
 have b2 : A.eval (.tmp 2) = .slice mo' L'.length mc' := hb 2 _ rfl
 have b3 : A.eval (.tmp 3) = .int .i64 bad := hb 3 _ rfl
 clear hb
 have H := Cx.start w
 refine c_rs (m_start ?_)
 refine q_box H ?_
 clear H
 intro w1 H z1
 refine qa ?_
 refine l_nx ?_
 refine c_rs ?_
 refine qa ?_
 refine q_c2 (spotT_any bad 4 (by decide) (by decide) w1) ?_
 rintro e w2 ⟨b, hb4, rfl, rfl⟩
 refine ⟨_, rfl, ?_⟩
 refine qa ?_
 refine l_nx ?_
 have hb4 : b < 4 := by omega
 obtain ⟨bd, ebd⟩ : ∃ bd : Int, bd = (b : Int) := ⟨_, rfl⟩
 have hbd : -1 ≤ bd ∧ bd < 4 := by omega
 rw [← ebd]
 refine c_rs ?_
 iterate 2 refine qa ?_
 have hsz := H.size
 refine q_c2 (one_any bd mo mc L _ (hr.below H.bel) (fun c hc => (hok c hc).below H.bel)) ?_
 rintro e w3 ⟨v3, rfl, G3⟩
 replace H := ownI_base (H.plus G3) hsz
 refine ⟨_, rfl, ?_⟩
 refine qa ?_
 have hsz := H.size
 refine q_c2 (one_any (-1) mo' mc' L' _ (hr'.below H.bel) (fun c hc => (hok' c hc).below H.bel)) ?_
 rintro e w4 ⟨v4, rfl, G4⟩
 replace H := ownI_base (H.plus G4) hsz
 refine ⟨_, rfl, ?_⟩
 have hbr : R64 bd := by unfold R64; omega
 have hbr1 : R64 (-1) := by unfold R64; omega
 have hO : InOK (oneM bd L 40) := oneM_in (by decide) hbd
 have hM : InOK (oneM (-1) L' 40) := oneM_in (by decide) (by omega)
 have hOl : (oneM bd L 40).length ≤ 40 := by unfold oneM; rw [List.length_map, List.length_take]; omega
 have hMl : (oneM (-1) L' 40).length ≤ 40 := by unfold oneM; rw [List.length_map, List.length_take]; omega
 have hO1 : OneB bd (oneM bd L 40) := oneM_one
 have hM1 : OneB (-1) (oneM (-1) L' 40) := oneM_one
 have hOk : ∀ c, c ∈ oneM bd L 40 → LiOK w c := oneM_ok hok hbr
 have hMk : ∀ c, c ∈ oneM (-1) L' 40 → LiOK w c := oneM_ok hok' hbr1
 obtain ⟨O, eO⟩ : ∃ O, O = oneM bd L 40 := ⟨_, rfl⟩
 obtain ⟨M, eM⟩ : ∃ M, M = oneM (-1) L' 40 := ⟨_, rfl⟩
 rw [← eO, ← eM] at H
 rw [← eO] at hO hOl hO1 hOk
 rw [← eM] at hM hMl hM1 hMk
 have hin : InOK (O ++ M) := ⟨by rw [List.length_append]; omega, fun c hc => by
  rcases List.mem_append.1 hc with h | h
  ·exact hO.2 c h
  ·exact hM.2 c h⟩
 have hokA : ∀ c, c ∈ O ++ M → LiOK w c := fun c hc => by
  rcases List.mem_append.1 hc with h | h
  ·exact hOk c h
  ·exact hMk c h
 have hla : (O ++ M).length = O.length + M.length := List.length_append
 have hrwM : World.ownsRow _ _ _ _ _ _ _ := H.o0
 obtain ⟨mM, cM, rfl, hcM⟩ := rw_slice hrwM
 have hrwO : World.ownsRow _ _ _ _ _ _ _ := H.o1
 obtain ⟨mO, cO, rfl, hcO⟩ := rw_slice hrwO
 iterate 2 refine qa ?_
 refine l_nx ?_
 refine c_nx ?_
 replace H := H.drew
 have hS : Vh 23 w4.drew w.heap.size 4 4 (ntnF t) := H.v2
 refine c_rj (S := fun W' => Vh 23 W' w.heap.size 4 4 (ntnF t)) (.rd 0 (.mv 1 (.mv 3 (.go 2 (.go 4 (.go 5 (.mv 6 (.mv 7 (.mv 8 (.mv 9 (.mv 10 (.mv 11 (.mv 12 .fin))))))))))))) [] (by kernel_rfl) (by kernel_rfl) ?_
 refine Yr rfl hS (fun _ H => run_loadP _ _ rfl ManyK.out Qv H (by omega)) ?_
 iterate 2 refine qj ?_
 refine j_do rfl rfl (wanted_rd rfl) (fun K hK => ?_)
 refine wp_joinA (bytes := 128) rfl inferInstance H.size Qv Qv (World.ownsRow_nil _ _ _ _) (rdc_own H.o1) (rwS_one (fun x _ => ipF_one _ _ _ _ _)) (by unfold maxLen; omega) (by omega) ?_
 intro v5 w5a h5 k5 f5
 have k5b := below_grown k5 (fun k e => nomatch e)
 replace H := H.add k5b (ownI w.heap.size 31 14 v5 (0 + O.length) ([] ++ rwS inpF 14 O)) h5 (fun j e => by rcases f5 j e with h | h; cases h; exact h)
 refine hK _ _ (fun _ h => Vh.below h k5b) ?_
 clear hK K
 refine j_do rfl rfl (wanted_rd rfl) (fun K hK => ?_)
 refine wp_joinA (bytes := 128) rfl inferInstance H.size Qv Qv H.o0 (rdc_own H.o1) (rwS_one (fun x _ => ipF_one _ _ _ _ _)) (by unfold maxLen; omega) (by omega) ?_
 intro v6 w6a h6 k6 f6
 replace H := H.p0 k6.os k6.tape k6.output k6.size (fun j h5 h6 => k6.block j h5 (fun e => h6 e.symm)) (ownI w.heap.size 31 14 v6 (0 + O.length + M.length) ([] ++ rwS inpF 14 O ++ rwS inpF 14 M)) h6 f6
 refine hK _ _ (fun _ _ => H.v3) ?_
 clear hK K
 refine j_do rfl rfl (wanted_rd rfl) (fun K hK => ?_)
 have hra : World.ownsRow _ _ _ _ _ _ _ := H.o0
 rw [Nat.zero_add, List.nil_append, ← rwS_app, ← hla] at hra
 obtain ⟨mA, cA, rfl, hcA⟩ := rw_slice hra
 refine wp_call2 _ 11 _ _ _ rfl Qv Qv (EntK.out _ _) (behind_any t mA cA (O ++ M) _ ht (rdS_own hra (by decide)) (fun c hc => (hokA c hc).below H.bel) hin) ?_
 rintro e w7 ⟨v1, v2, CL, RL, rfl, hCl, hRl, hC, hR, G7⟩
 replace H := H.plus G7
 refine ⟨_, rfl, hK _ _ (fun _ h => Vh.below h G7.bel) ?_⟩
 clear hK K hS
 refine qj ?_
 refine j_mv rfl rfl (fun _ _ _ h => h) (wanted_rd rfl) (fun w => run_ext3A _ rfl Qv w) ?_
 refine j_mv rfl rfl (fun _ _ _ h => h) (wanted_rd rfl) (fun w => run_ext3B _ rfl Qv w) ?_
 refine j_mv rfl rfl (fun _ _ _ h => h) (wanted_rd rfl) (fun w => run_ext3C _ rfl Qv w) ?_
 iterate 3 refine qj ?_
 refine j_nx ?_
 refine c_nx ?_
 refine c_rs ?_
 refine q_c0 (alive_any w7) ?_
 rintro e w5 ⟨rfl, k5'⟩
 refine ⟨_, rfl, ?_⟩
 replace H := H.call k5'
 iterate 4 refine qa ?_
 refine qg (run_pickF _ _ _ rfl Qv Qv _) ?_
 refine l_nx ?_
 refine q_no rfl (c_fin ?_)
 have F := H
 have hcr : World.ownsRow _ _ _ _ _ _ _ := F.o0
 obtain ⟨c1, q1, rfl, hq1⟩ := rw_slice hcr
 have hrr : World.ownsRow _ _ _ _ _ _ _ := F.o2
 obtain ⟨c2, q2, rfl, hq2⟩ := rw_slice hrr
 replace H := Cx.start w5
 refine c_rs ?_
 iterate 3 refine qa ?_
 refine l_nx ?_
 refine c_nx ?_
 refine c_rs ?_
 iterate 2 refine qa ?_
 refine qg (run_eqlI _ _ rfl Qv Qv rfl _) ?_
 refine l_nx ?_
 refine q_if (fun h => ?_) (fun h => ?_)
 ·refine c_rs ?_
  refine qa ?_
  refine l_nx ?_
  exact c_ret (r_nx (ret_of ((defL _ _).trans hd) (res_t rfl Qv) ⟨rfl, F.bel.trans (H.bel.mono F.size)⟩))
 have hM0 : 0 < M.length := by have := of_decide_eq_false h; omega
 have nl : O.length < (O ++ M).length := by omega
 have nr : O.length < RL.length := by omega
 have nc : O.length < CL.length := by omega
 obtain ⟨n, en⟩ : ∃ n, n = O.length := ⟨_, rfl⟩
 rw [← en] at nl nr nc ⊢
 have hcc := List.getElem?_eq_getElem nl
 obtain ⟨cc, ecc⟩ : ∃ cc, cc = (O ++ M)[n] := ⟨_, rfl⟩
 rw [← ecc] at hcc
 have ecb : cc.x.bad = -1 := hM1 cc (by
  rw [ecc]
  have : (O ++ M)[n]'nl = M[n - O.length]'(by omega) := List.getElem_append_right (by omega)
  rw [this]
  exact List.getElem_mem _)
 have hre := List.getElem?_eq_getElem nr
 obtain ⟨u, eu⟩ : ∃ u, u = RL[n] := ⟨_, rfl⟩
 rw [← eu] at hre
 have hum : u ∈ RL := List.mem_of_getElem? hre
 have hu := (hR n u cc hre hcc).trans (frR_four hin hcc ecb)
 obtain ⟨gg, egg⟩ : ∃ gg, gg = gnN b := ⟨_, rfl⟩
 obtain ⟨hg4, hgb⟩ := gnN_ok hb4
 rw [← egg] at hg4 hgb
 obtain ⟨nb, enb⟩ : ∃ nb, nb = (cK t (O ++ M) (n + 1)).nd b := ⟨_, rfl⟩
 obtain ⟨ng, eng⟩ : ∃ ng, ng = (cK t (O ++ M) (n + 1)).nd gg := ⟨_, rfl⟩
 have hub : u.1[b]? = some nb := by rw [hu, enb]; exact four_at (f := (cK t (O ++ M) (n + 1)).nd) hb4
 have hug : u.1[gg]? = some ng := by rw [hu, eng]; exact four_at (f := (cK t (O ++ M) (n + 1)).nd) hg4
 have hul : u.1.length = 4 := by rw [hu]; rfl
 have bl : b < u.1.length := by omega
 have gl : gg < u.1.length := by omega
 obtain ⟨g2, cap2, eg2, _, hcell2⟩ := rwS_rd hrr (by omega) (by decide)
 obtain ⟨rfl, rfl⟩ : c2 = some ⟨g2, 0, none⟩ ∧ q2 = cap2 := by cases eg2; exact ⟨rfl, rfl⟩
 have hlod : w5.cell? ⟨g2, 0 + n * 1, none⟩ = some (.slice u.2.1 u.1.length u.2.2) := hcell2 n u hre 0 (by omega)
 have hur : World.ownsRow _ _ _ _ _ _ _ := F.o3 u hum
 obtain ⟨g3, cap3, eg3, _, hcell3⟩ := rwS_rd hur (by omega) (by decide)
 have eg3' : u.2.1 = some ⟨g3, 0, none⟩ := by unfold slV at eg3; cases eg3' : u.2.1 with | none => rw [eg3'] at eg3; cases eg3 | some z => rw [eg3'] at eg3; cases eg3; rfl
 have hlod3 : w5.cell? ⟨g2, 0 + n * 1, none⟩ = some (.slice (some ⟨g3, 0, none⟩) u.1.length u.2.2) := by rw [hlod, eg3']
 have hdb : w5.cell? ⟨g3, 0 + b * 14 + 8, none⟩ = some (.int .i64 nb.dg) := by rw [hcell3 b nb hub _ (by omega), rpF8]
 have hdg : w5.cell? ⟨g3, 0 + gg * 14 + 8, none⟩ = some (.int .i64 ng.dg) := by rw [hcell3 gg ng hug _ (by omega), rpF8]
 obtain ⟨g, cap, eg, _, hcellC⟩ := rwS_rd hcr (by omega) (by decide)
 obtain ⟨rfl, rfl⟩ : c1 = some ⟨g, 0, none⟩ ∧ q1 = cap := by cases eg; exact ⟨rfl, rfl⟩
 have hnd : ∀ k d i, CL[k]? = some d → i < 4 → ∀ q, q < 74 → w5.cell? ⟨g, 0 + k * 297 + 1 + i * 74 + q, none⟩ = some (ndF ((cK t (O ++ M) (k + 1)).nd i) (slV (d.2 i).2 ((cK t (O ++ M) (k + 1)).nd i).vA.length) q) := fun k d i hkd hi q hq => by
  rw [show 0 + k * 297 + 1 + i * 74 + q = 0 + k * 297 + (0 + 1 + i * 74 + q) by omega, hcellC k d hkd _ (by omega), clH_at d hq, (hC k d hkd).2 i hi]
 have hcn := List.getElem?_eq_getElem nc
 obtain ⟨d, ed⟩ : ∃ d, d = CL[n] := ⟨_, rfl⟩
 rw [← ed] at hcn
 have haxb : ∀ q, q < 21 → w5.cell? ⟨g, 0 + n * 297 + 1 + b * 74 + 6 + q, none⟩ = some (nstF (nb.ax (q / 7)) (q % 7)) := fun q hq => by
  rw [show 0 + n * 297 + 1 + b * 74 + 6 + q = 0 + n * 297 + 1 + b * 74 + (0 + 6 + q) by omega, hnd n d b hcn hb4 _ (by omega), ← enb, ndF_axs _ _ q hq]
 have haxg : ∀ q, q < 21 → w5.cell? ⟨g, 0 + n * 297 + 1 + gg * 74 + 6 + q, none⟩ = some (nstF (ng.ax (q / 7)) (q % 7)) := fun q hq => by
  rw [show 0 + n * 297 + 1 + gg * 74 + 6 + q = 0 + n * 297 + 1 + gg * 74 + (0 + 6 + q) by omega, hnd n d gg hcn hg4 _ (by omega), ← eng, ndF_axs _ _ q hq]
 have hrlb : ∀ q, q < 12 → w5.cell? ⟨g, 0 + n * 297 + 1 + b * 74 + 27 + q, none⟩ = some (nrlF nb.rl q) := fun q hq => by
  rw [show 0 + n * 297 + 1 + b * 74 + 27 + q = 0 + n * 297 + 1 + b * 74 + (0 + 27 + q) by omega, hnd n d b hcn hb4 _ (by omega), ← enb, ndF_rl _ _ q hq]
 have hrlg : ∀ q, q < 12 → w5.cell? ⟨g, 0 + n * 297 + 1 + gg * 74 + 27 + q, none⟩ = some (nrlF ng.rl q) := fun q hq => by
  rw [show 0 + n * 297 + 1 + gg * 74 + 27 + q = 0 + n * 297 + 1 + gg * 74 + (0 + 27 + q) by omega, hnd n d gg hcn hg4 _ (by omega), ← eng, ndF_rl _ _ q hq]
 refine c_fin ?_
 refine c_rs ?_
 iterate 2 refine qa ?_
 refine qg (run_rem4 _ rfl (fun _ => Qv) hb4 (Eq.trans Qv (by rw [ebd])) _) ?_
 rw [← egg]
 refine qa ?_
 refine l_nx ?_
 refine c_new (fun A W => A.tmps.size = 176 ∧ A.defers = [] ∧ A.eval (.tmp 3) = .int .i64 bd ∧ A.eval (.tmp 9) = .slice (some ⟨g, 0, none⟩) CL.length q1 ∧ A.eval (.tmp 10) = .slice (some ⟨g2, 0, none⟩) RL.length q2 ∧ A.eval (.tmp 12) = .int .i64 (n : Int) ∧ A.eval (.tmp 13) = .int .i64 (gg : Int) ∧ Cx w5 W [])
  ⟨(szL _ _).trans hs, (defL _ _).trans hd, Qv, Qv, Qv, Qv, Qv, H⟩ (fun A W0 hT => ?_)
 clear b0 b1 b2 b3 hs hd H
 obtain ⟨hs, hd, b3, b9, b10, b12, b13, H⟩ := hT
 refine c_midT (fun A W => A.tmps.size = 176 ∧ A.defers = [] ∧ A.eval (.tmp 3) = .int .i64 bd ∧ A.eval (.tmp 9) = .slice (some ⟨g, 0, none⟩) CL.length q1 ∧ A.eval (.tmp 10) = .slice (some ⟨g2, 0, none⟩) RL.length q2 ∧ A.eval (.tmp 12) = .int .i64 (n : Int) ∧ A.eval (.tmp 13) = .int .i64 (gg : Int) ∧ (nb.dg = ng.dg → ∀ a, a < 3 → nb.ax a = ng.ax a) ∧ Cx w5 W []) (fun hmid => ?_) (fun A W hT => ?_)
 ·refine c_nx ?_
  refine c_nx ?_
  replace H := H.drew
  have hS : (fun W' => Below w5.heap.size w5 W') W0.drew := H.bel
  by_cases hd0 : nb.dg = ng.dg
  ·refine c_rj (S := fun W' => Below w5.heap.size w5 W') (.mv 0 (.mv 1 (.mv 2 (.rd 3 (.mv 4 (.mv 5 (.mv 6 (.rd 7 (.mv 8 (.mv 9 (.mv 10 (.rd 11 (.mv 12 (.mv 13 (.mv 14 (.rd 15 (.mv 16 (.mv 17 (.mv 18 (.mv 19 (.mv 20 (.mv 21 (.mv 22 (.mv 23 (.mv 24 (.rd 25 (.mv 26 (.mv 27 (.mv 28 (.mv 29 (.mv 30 (.mv 31 (.mv 32 (.rd 33 (.mv 34 (.mv 35 .fin)))))))))))))))))))))))))))))))))))) [] (by kernel_rfl) (by kernel_rfl) ?_
   refine j_start ?_
   iterate 2 refine qj ?_
   refine j_mv rfl rfl (fun _ _ _ h => h) (wanted_rd rfl) (fun w => run_ixSC _ _ _ _ rfl SlcK.out SizK.out Qv Qv rfl nr w) ?_
   refine Yr rfl hS (fun _ H => run_lodX OneK.out (at_below hlod3 H) rfl Qv) ?_
   refine qj ?_
   refine j_mv rfl rfl (fun _ _ _ h => h) (wanted_rd rfl) (fun w => run_ixSC (i := b) _ _ _ _ rfl SlcK.out SizK.out Qv Qv ebd bl w) ?_
   refine qj ?_
   refine Yr rfl hS (fun _ H => run_lodX OneK.out (at_below hdb H) rfl Qv) ?_
   iterate 2 refine qj ?_
   refine j_mv rfl rfl (fun _ _ _ h => h) (wanted_rd rfl) (fun w => run_ixSC _ _ _ _ rfl SlcK.out SizK.out Qv Qv rfl nr w) ?_
   refine Yr rfl hS (fun _ H => run_lodX OneK.out (at_below hlod3 H) rfl Qv) ?_
   refine qj ?_
   refine j_mv rfl rfl (fun _ _ _ h => h) (wanted_rd rfl) (fun w => run_ixSC (i := gg) _ _ _ _ rfl SlcK.out SizK.out Qv Qv rfl gl w) ?_
   refine qj ?_
   refine Yr rfl hS (fun _ H => run_lodX OneK.out (at_below hdg H) rfl Qv) ?_
   refine j_mv rfl rfl (fun _ _ _ h => h) (wanted_rd rfl) (fun w => run_eqlI (b := true) _ _ rfl Qv Qv (decide_eq_true hd0) w) ?_
   iterate 4 refine qj ?_
   refine j_mv rfl rfl (fun _ _ _ h => h) (wanted_g rfl rfl rfl Qv) (fun w => run_ixSC _ _ _ _ rfl SlcK.out SizK.out Qv Qv rfl nc w) ?_
   refine qj ?_
   refine j_mv rfl rfl (fun _ _ _ h => h) (wanted_g rfl rfl rfl Qv) (fun w => run_ixG (i := b) _ _ _ _ rfl ArrK.out SizK.out Qv Qv ebd hb4 w) ?_
   refine qj ?_
   refine j_rd rfl rfl (fun _ _ _ h => h) (wanted_g rfl rfl rfl Qv) hS (fun _ H => run_lodCs (g := fun q => nstF (nb.ax (q / 7)) (q % 7)) ManyK.out (fun q hq => at_below (haxb q hq) H) rfl Qv) ?_
   iterate 3 refine qj ?_
   refine j_mv rfl rfl (fun _ _ _ h => h) (wanted_g rfl rfl rfl Qv) (fun w => run_ixSC _ _ _ _ rfl SlcK.out SizK.out Qv Qv rfl nc w) ?_
   refine qj ?_
   refine j_mv rfl rfl (fun _ _ _ h => h) (wanted_g rfl rfl rfl Qv) (fun w => run_ixG (i := gg) _ _ _ _ rfl ArrK.out SizK.out Qv Qv rfl hg4 w) ?_
   refine qj ?_
   refine j_rd rfl rfl (fun _ _ _ h => h) (wanted_g rfl rfl rfl Qv) hS (fun _ H => run_lodCs (g := fun q => nstF (ng.ax (q / 7)) (q % 7)) ManyK.out (fun q hq => at_below (haxg q hq) H) rfl Qv) ?_
   by_cases hax : ∀ a, a < 3 → nb.ax a = ng.ax a
   ·refine j_mv rfl rfl (fun _ _ _ h => h) (wanted_g rfl rfl rfl Qv) (fun w => run_neqSt3N (a := nb.ax) _ _ rfl Qv (Eq.trans Qv (agV_cong (fun j hj => by rw [Nat.zero_add, hax (j / 7) (by omega)]))) w) ?_
    refine j_mv rfl rfl (fun _ _ _ h => h) (wanted_rd rfl) (fun w => run_pickT' _ _ _ rfl Qv Qv w) ?_
    refine j_nx ?_
    refine q_no rfl (c_fin ?_)
    exact hmid _ _ ⟨(szL _ _).trans hs, (defL _ _).trans hd, Qv, Qv, Qv, Qv, Qv, fun _ => hax, H⟩
   ·refine j_mv rfl rfl (fun _ _ _ h => h) (wanted_g rfl rfl rfl Qv) (fun w => run_neqSt3Y _ _ rfl hax Qv Qv w) ?_
    refine j_mv rfl rfl (fun _ _ _ h => h) (wanted_rd rfl) (fun w => run_pickT' _ _ _ rfl Qv Qv w) ?_
    refine j_nx ?_
    refine q_yes rfl ?_
    refine c_rs ?_
    refine qa ?_
    refine l_nx ?_
    exact c_ret (r_nx (ret_of ((defL _ _).trans hd) (res_t rfl Qv) ⟨rfl, F.bel.trans (H.bel.mono F.size)⟩))
  ·refine c_rj (S := fun W' => Below w5.heap.size w5 W') (.mv 0 (.mv 1 (.mv 2 (.rd 3 (.mv 4 (.mv 5 (.mv 6 (.rd 7 (.mv 8 (.mv 9 (.mv 10 (.rd 11 (.mv 12 (.mv 13 (.mv 14 (.rd 15 (.mv 16 (.mv 17 (.mv 18 (.mv 19 (.mv 20 (.mv 21 (.mv 22 (.mv 23 (.mv 24 (.mv 25 (.mv 26 (.mv 27 (.mv 28 (.mv 29 (.mv 30 (.mv 31 (.mv 32 (.mv 33 (.mv 34 (.mv 35 .fin)))))))))))))))))))))))))))))))))))) [] (by kernel_rfl) (by kernel_rfl) ?_
   refine j_start ?_
   iterate 2 refine qj ?_
   refine j_mv rfl rfl (fun _ _ _ h => h) (wanted_rd rfl) (fun w => run_ixSC _ _ _ _ rfl SlcK.out SizK.out Qv Qv rfl nr w) ?_
   refine Yr rfl hS (fun _ H => run_lodX OneK.out (at_below hlod3 H) rfl Qv) ?_
   refine qj ?_
   refine j_mv rfl rfl (fun _ _ _ h => h) (wanted_rd rfl) (fun w => run_ixSC (i := b) _ _ _ _ rfl SlcK.out SizK.out Qv Qv ebd bl w) ?_
   refine qj ?_
   refine Yr rfl hS (fun _ H => run_lodX OneK.out (at_below hdb H) rfl Qv) ?_
   iterate 2 refine qj ?_
   refine j_mv rfl rfl (fun _ _ _ h => h) (wanted_rd rfl) (fun w => run_ixSC _ _ _ _ rfl SlcK.out SizK.out Qv Qv rfl nr w) ?_
   refine Yr rfl hS (fun _ H => run_lodX OneK.out (at_below hlod3 H) rfl Qv) ?_
   refine qj ?_
   refine j_mv rfl rfl (fun _ _ _ h => h) (wanted_rd rfl) (fun w => run_ixSC (i := gg) _ _ _ _ rfl SlcK.out SizK.out Qv Qv rfl gl w) ?_
   refine qj ?_
   refine Yr rfl hS (fun _ H => run_lodX OneK.out (at_below hdg H) rfl Qv) ?_
   refine j_mv rfl rfl (fun _ _ _ h => h) (wanted_rd rfl) (fun w => run_eqlI (b := false) _ _ rfl Qv Qv (decide_eq_false hd0) w) ?_
   refine qj ?_
   iterate 17 refine qj_skip ?_
   refine j_mv rfl rfl (fun _ _ _ h => h) (wanted_rd rfl) (fun w => run_pickF _ _ _ rfl Qv Qv w) ?_
   refine j_nx ?_
   refine q_no rfl (c_fin ?_)
   exact hmid _ _ ⟨(szL _ _).trans hs, (defL _ _).trans hd, Qv, Qv, Qv, Qv, Qv, fun e => absurd e hd0, H⟩
 clear b3 b9 b10 b12 b13 hs hd H
 obtain ⟨hs, hd, b3, b9, b10, b12, b13, hP1, H⟩ := hT
 refine c_midT (fun A W => A.tmps.size = 176 ∧ A.defers = [] ∧ A.eval (.tmp 3) = .int .i64 bd ∧ A.eval (.tmp 9) = .slice (some ⟨g, 0, none⟩) CL.length q1 ∧ A.eval (.tmp 12) = .int .i64 (n : Int) ∧ A.eval (.tmp 13) = .int .i64 (gg : Int) ∧ (nb.dg = ng.dg → RlE nb.rl ng.rl) ∧ Cx w5 W []) (fun hmid => ?_) (fun A2 W2 hT => ?_)
 ·refine c_nx ?_
  refine c_nx ?_
  replace H := H.drew
  have hS : (fun W' => Below w5.heap.size w5 W') W.drew := H.bel
  by_cases hd0 : nb.dg = ng.dg
  ·refine c_rj (S := fun W' => Below w5.heap.size w5 W') (.mv 0 (.mv 1 (.mv 2 (.rd 3 (.mv 4 (.mv 5 (.mv 6 (.rd 7 (.mv 8 (.mv 9 (.mv 10 (.rd 11 (.mv 12 (.mv 13 (.mv 14 (.rd 15 (.mv 16 (.mv 17 (.mv 18 (.mv 19 (.mv 20 (.mv 21 (.mv 22 (.mv 23 (.mv 24 (.rd 25 (.mv 26 (.mv 27 (.mv 28 (.mv 29 (.mv 30 (.mv 31 (.mv 32 (.rd 33 (.mv 34 (.mv 35 .fin)))))))))))))))))))))))))))))))))))) [] (by kernel_rfl) (by kernel_rfl) ?_
   refine j_start ?_
   iterate 2 refine qj ?_
   refine j_mv rfl rfl (fun _ _ _ h => h) (wanted_rd rfl) (fun w => run_ixSC _ _ _ _ rfl SlcK.out SizK.out Qv Qv rfl nr w) ?_
   refine Yr rfl hS (fun _ H => run_lodX OneK.out (at_below hlod3 H) rfl Qv) ?_
   refine qj ?_
   refine j_mv rfl rfl (fun _ _ _ h => h) (wanted_rd rfl) (fun w => run_ixSC (i := b) _ _ _ _ rfl SlcK.out SizK.out Qv Qv ebd bl w) ?_
   refine qj ?_
   refine Yr rfl hS (fun _ H => run_lodX OneK.out (at_below hdb H) rfl Qv) ?_
   iterate 2 refine qj ?_
   refine j_mv rfl rfl (fun _ _ _ h => h) (wanted_rd rfl) (fun w => run_ixSC _ _ _ _ rfl SlcK.out SizK.out Qv Qv rfl nr w) ?_
   refine Yr rfl hS (fun _ H => run_lodX OneK.out (at_below hlod3 H) rfl Qv) ?_
   refine qj ?_
   refine j_mv rfl rfl (fun _ _ _ h => h) (wanted_rd rfl) (fun w => run_ixSC (i := gg) _ _ _ _ rfl SlcK.out SizK.out Qv Qv rfl gl w) ?_
   refine qj ?_
   refine Yr rfl hS (fun _ H => run_lodX OneK.out (at_below hdg H) rfl Qv) ?_
   refine j_mv rfl rfl (fun _ _ _ h => h) (wanted_rd rfl) (fun w => run_eqlI (b := true) _ _ rfl Qv Qv (decide_eq_true hd0) w) ?_
   iterate 4 refine qj ?_
   refine j_mv rfl rfl (fun _ _ _ h => h) (wanted_g rfl rfl rfl Qv) (fun w => run_ixSC _ _ _ _ rfl SlcK.out SizK.out Qv Qv rfl nc w) ?_
   refine qj ?_
   refine j_mv rfl rfl (fun _ _ _ h => h) (wanted_g rfl rfl rfl Qv) (fun w => run_ixG (i := b) _ _ _ _ rfl ArrK.out SizK.out Qv Qv ebd hb4 w) ?_
   refine qj ?_
   refine j_rd rfl rfl (fun _ _ _ h => h) (wanted_g rfl rfl rfl Qv) hS (fun _ H => run_lodCs (g := nrlF nb.rl) ManyK.out (fun q hq => at_below (hrlb q hq) H) rfl Qv) ?_
   iterate 3 refine qj ?_
   refine j_mv rfl rfl (fun _ _ _ h => h) (wanted_g rfl rfl rfl Qv) (fun w => run_ixSC _ _ _ _ rfl SlcK.out SizK.out Qv Qv rfl nc w) ?_
   refine qj ?_
   refine j_mv rfl rfl (fun _ _ _ h => h) (wanted_g rfl rfl rfl Qv) (fun w => run_ixG (i := gg) _ _ _ _ rfl ArrK.out SizK.out Qv Qv rfl hg4 w) ?_
   refine qj ?_
   refine j_rd rfl rfl (fun _ _ _ h => h) (wanted_g rfl rfl rfl Qv) hS (fun _ H => run_lodCs (g := nrlF ng.rl) ManyK.out (fun q hq => at_below (hrlg q hq) H) rfl Qv) ?_
   by_cases hrl : RlE nb.rl ng.rl
   ·have eV : agV (nrlF ng.rl) 0 12 = rollV nb.rl := by
     rw [agV_cong (f := nrlF nb.rl) (fun j hj => by
      rw [Nat.zero_add]
      unfold nrlF
      by_cases c1 : j < 4
      ·rw [if_pos c1, if_pos c1, (hrl j c1).1]
      ·rw [if_neg c1, if_neg c1]
       by_cases c2 : j < 8
       ·rw [if_pos c2, if_pos c2, (hrl (j - 4) (by omega)).2.1]
       ·rw [if_neg c2, if_neg c2, (hrl (j - 8) (by omega)).2.2])]
     rfl
    refine j_mv rfl rfl (fun _ _ _ h => h) (wanted_g rfl rfl rfl Qv) (fun w => run_neqRlN (r := nb.rl) _ _ rfl (Eq.trans Qv (show agV (nrlF nb.rl) 0 12 = rollV nb.rl from rfl)) (Eq.trans Qv eV) w) ?_
    refine j_mv rfl rfl (fun _ _ _ h => h) (wanted_rd rfl) (fun w => run_pickT' _ _ _ rfl Qv Qv w) ?_
    refine j_nx ?_
    refine q_no rfl (c_fin ?_)
    exact hmid _ _ ⟨(szL _ _).trans hs, (defL _ _).trans hd, Qv, Qv, Qv, Qv, fun _ => hrl, H⟩
   ·refine j_mv rfl rfl (fun _ _ _ h => h) (wanted_g rfl rfl rfl Qv) (fun w => run_neqRlY _ _ rfl hrl (Eq.trans Qv (show agV (nrlF nb.rl) 0 12 = rollV nb.rl from rfl)) (Eq.trans Qv (show agV (nrlF ng.rl) 0 12 = rollV ng.rl from rfl)) w) ?_
    refine j_mv rfl rfl (fun _ _ _ h => h) (wanted_rd rfl) (fun w => run_pickT' _ _ _ rfl Qv Qv w) ?_
    refine j_nx ?_
    refine q_yes rfl ?_
    refine c_rs ?_
    refine qa ?_
    refine l_nx ?_
    exact c_ret (r_nx (ret_of ((defL _ _).trans hd) (res_t rfl Qv) ⟨rfl, F.bel.trans (H.bel.mono F.size)⟩))
  ·refine c_rj (S := fun W' => Below w5.heap.size w5 W') (.mv 0 (.mv 1 (.mv 2 (.rd 3 (.mv 4 (.mv 5 (.mv 6 (.rd 7 (.mv 8 (.mv 9 (.mv 10 (.rd 11 (.mv 12 (.mv 13 (.mv 14 (.rd 15 (.mv 16 (.mv 17 (.mv 18 (.mv 19 (.mv 20 (.mv 21 (.mv 22 (.mv 23 (.mv 24 (.mv 25 (.mv 26 (.mv 27 (.mv 28 (.mv 29 (.mv 30 (.mv 31 (.mv 32 (.mv 33 (.mv 34 (.mv 35 .fin)))))))))))))))))))))))))))))))))))) [] (by kernel_rfl) (by kernel_rfl) ?_
   refine j_start ?_
   iterate 2 refine qj ?_
   refine j_mv rfl rfl (fun _ _ _ h => h) (wanted_rd rfl) (fun w => run_ixSC _ _ _ _ rfl SlcK.out SizK.out Qv Qv rfl nr w) ?_
   refine Yr rfl hS (fun _ H => run_lodX OneK.out (at_below hlod3 H) rfl Qv) ?_
   refine qj ?_
   refine j_mv rfl rfl (fun _ _ _ h => h) (wanted_rd rfl) (fun w => run_ixSC (i := b) _ _ _ _ rfl SlcK.out SizK.out Qv Qv ebd bl w) ?_
   refine qj ?_
   refine Yr rfl hS (fun _ H => run_lodX OneK.out (at_below hdb H) rfl Qv) ?_
   iterate 2 refine qj ?_
   refine j_mv rfl rfl (fun _ _ _ h => h) (wanted_rd rfl) (fun w => run_ixSC _ _ _ _ rfl SlcK.out SizK.out Qv Qv rfl nr w) ?_
   refine Yr rfl hS (fun _ H => run_lodX OneK.out (at_below hlod3 H) rfl Qv) ?_
   refine qj ?_
   refine j_mv rfl rfl (fun _ _ _ h => h) (wanted_rd rfl) (fun w => run_ixSC (i := gg) _ _ _ _ rfl SlcK.out SizK.out Qv Qv rfl gl w) ?_
   refine qj ?_
   refine Yr rfl hS (fun _ H => run_lodX OneK.out (at_below hdg H) rfl Qv) ?_
   refine j_mv rfl rfl (fun _ _ _ h => h) (wanted_rd rfl) (fun w => run_eqlI (b := false) _ _ rfl Qv Qv (decide_eq_false hd0) w) ?_
   refine qj ?_
   iterate 17 refine qj_skip ?_
   refine j_mv rfl rfl (fun _ _ _ h => h) (wanted_rd rfl) (fun w => run_pickF _ _ _ rfl Qv Qv w) ?_
   refine j_nx ?_
   refine q_no rfl (c_fin ?_)
   exact hmid _ _ ⟨(szL _ _).trans hs, (defL _ _).trans hd, Qv, Qv, Qv, Qv, fun e => absurd e hd0, H⟩
 clear b3 b9 b10 b12 b13 hs hd H
 obtain ⟨hs, hd, b3, b9, b12, b13, hP2, H⟩ := hT
 have hback := mix_back (t := t) (b := b) hin (by rw [← ebd]; exact hO1) hM1 hb4 hg4 hgb (by
  rw [← en, ← enb, ← eng]
  exact fun e => ⟨hP1 e, hP2 e⟩)
 rw [← en] at hback
 refine c_nx ?_
 refine c_rs (m_start ?_)
 iterate 2 refine qa ?_
 refine l_nx ?_
 refine c_block ?_
 refine c_loop (fun r A W => ∃ k : Nat, n ≤ k ∧ k ≤ CL.length ∧ CL.length - k ≤ r ∧ A.tmps.size = 176 ∧ A.defers = [] ∧ A.eval (.tmp 3) = .int .i64 bd ∧ A.eval (.tmp 9) = .slice (some ⟨g, 0, none⟩) CL.length q1 ∧ A.eval (.tmp 12) = .int .i64 (n : Int) ∧ A.eval (.tmp 13) = .int .i64 (gg : Int) ∧ A.eval (.tmp 14) = .int .i64 (k : Int) ∧ Cx w5 W []) CL.length
  ⟨n, Nat.le_refl _, by omega, by omega, (szL _ _).trans hs, (defL _ _).trans hd, Qv, Qv, Qv, Qv, Qv, H⟩ (fun r B W3 hI => ?_)
 clear b3 b9 b12 b13 hs hd H
 obtain ⟨k, hnk, hk, hkr, hs, hd, b3, b9, b12, b13, b14, H⟩ := hI
 have hsm : CL.length ≤ 1000 := by have := hin.1; omega
 refine c_nx ?_
 refine c_rs (m_start ?_)
 iterate 4 refine qa ?_
 refine l_nx ?_
 refine q_if (fun h => ?_) (fun h => ?_)
 ·have kc : k < CL.length := by have := of_decide_eq_true h; omega
  have hckd := List.getElem?_eq_getElem kc
  obtain ⟨dk, edk⟩ : ∃ dk, dk = CL[k] := ⟨_, rfl⟩
  rw [← edk] at hckd
  obtain ⟨hal, hbd2, hb3⟩ := hback (k - n) (by omega)
  rw [show n + (k - n) + 1 = k + 1 by omega] at hal hbd2 hb3
  have hxb := hnd k dk b hckd hb4
  have hxg := hnd k dk gg hckd hg4
  have hax := hal.ax b gg hb4 hg4
  have hrl := hal.rl b gg hb4 hg4
  have hdgE : n < k → ((cK t (O ++ M) (k + 1)).nd b).dg = ((cK t (O ++ M) (k + 1)).nd gg).dg := fun e => hbd2 (by omega) b gg hb4 hg4
  have hinE : n + 3 ≤ k → ∀ s, s < 4 → ((cK t (O ++ M) (k + 1)).nd gg).rl.I s = true := fun e s hs => hb3 (by omega) gg s hg4 hs
  obtain ⟨xb, exb⟩ : ∃ xb, xb = (cK t (O ++ M) (k + 1)).nd b := ⟨_, rfl⟩
  obtain ⟨xg, exg⟩ : ∃ xg, xg = (cK t (O ++ M) (k + 1)).nd gg := ⟨_, rfl⟩
  rw [← exb] at hxb hax hrl hdgE
  rw [← exg] at hxg hax hrl hdgE hinE
  obtain ⟨vb, evb⟩ : ∃ vb, vb = slV (dk.2 b).2 xb.vA.length := ⟨_, rfl⟩
  obtain ⟨vg, evg⟩ : ∃ vg, vg = slV (dk.2 gg).2 xg.vA.length := ⟨_, rfl⟩
  have ovb : vb.oneCell' = true := by rw [evb]; rfl
  have ovg : vg.oneCell' = true := by rw [evg]; rfl
  rw [← evb] at hxb
  rw [← evg] at hxg
  refine c_fin ?_
  refine c_nx (c_block ?_)
  refine c_nx ?_
  replace H := H.drew
  have hS : (fun W' => Below w5.heap.size w5 W') W3.drew := H.bel
  refine c_rj (S := fun W' => Below w5.heap.size w5 W') (.mv 0 (.mv 1 (.mv 2 (.mv 3 (.mv 4 (.mv 5 (.rd 6 (.mv 7 (.mv 8 (.mv 9 (.mv 10 (.mv 11 (.mv 12 (.rd 13 (.two 14 15 (.go 15 (.go 16 (.go 17 .fin))) (.go 14 (.go 16 (.go 17 .fin)))))))))))))))))) [] (by kernel_rfl) (by kernel_rfl) ?_
  iterate 3 refine qj ?_
  refine j_mv rfl rfl (fun _ _ _ h => h) (wanted_rd rfl) (fun w => run_ixSC _ _ _ _ rfl SlcK.out SizK.out Qv Qv rfl kc w) ?_
  refine qj ?_
  refine j_mv rfl rfl (fun _ _ _ h => h) (wanted_rd rfl) (fun w => run_ixG (i := b) _ _ _ _ rfl ArrK.out SizK.out Qv Qv ebd hb4 w) ?_
  refine Yr rfl hS (fun _ H => run_lodCs (g := ndF xb vb) ManyK.out (fun q hq => at_below (hxb q hq) H) rfl Qv) ?_
  iterate 3 refine qj ?_
  refine j_mv rfl rfl (fun _ _ _ h => h) (wanted_rd rfl) (fun w => run_ixSC _ _ _ _ rfl SlcK.out SizK.out Qv Qv rfl kc w) ?_
  refine qj ?_
  refine j_mv rfl rfl (fun _ _ _ h => h) (wanted_rd rfl) (fun w => run_ixG (i := gg) _ _ _ _ rfl ArrK.out SizK.out Qv Qv rfl hg4 w) ?_
  refine Yr rfl hS (fun _ H => run_lodCs (g := ndF xg vg) ManyK.out (fun q hq => at_below (hxg q hq) H) rfl Qv) ?_
  refine sJ_cut (r := .go 16 (.go 17 .fin)) (fun A W' => ∃ (p1 p2 : Nat), A.tmps.size = 176 ∧ A.defers = [] ∧ A.eval (.tmp 3) = .int .i64 bd ∧ A.eval (.tmp 9) = .slice (some ⟨g, 0, none⟩) CL.length q1 ∧ A.eval (.tmp 12) = .int .i64 (n : Int) ∧ A.eval (.tmp 13) = .int .i64 (gg : Int) ∧ A.eval (.tmp 14) = .int .i64 (k : Int) ∧ A.eval (.tmp 15) = .pointer (some ⟨p1, 0, none⟩) ∧ A.eval (.tmp 16) = .pointer (some ⟨p2, 0, none⟩) ∧ A.eval (.tmp 133) = agV (ndF xb vb) 0 74 ∧ A.eval (.tmp 140) = agV (ndF xg vg) 0 74 ∧ Cx w5 W' [vhI 55 p1 74 74 (ndF zeroN (.slice none 0 0)), vhI 55 p2 74 74 (ndF zeroN (.slice none 0 0))]) (fun A W' hT' => ?_) (fun hcut => ?_)
  ·clear b3 b9 b12 b13 b14 hs hd H hS
   obtain ⟨p1, p2, hs, hd, b3, b9, b12, b13, b14, b15, b16, b133, b140, H⟩ := hT'
   refine j_start ?_
   refine j_st rfl (wanted_rd rfl) (fun K hK => ?_)
   refine wp_storeP _ _ _ _ rfl ManyK.out Qv Qv H.v0 (by omega) (ndF_oneV _ ovb) rfl ?_
   intro w8 m8 k8 z8
   replace H := H.s0 k8 (m8.congr stP_whole)
   refine hK _ (fun _ _ => H.bel) ?_
   clear hK K
   refine j_st rfl (wanted_rd rfl) (fun K hK => ?_)
   refine wp_storeP _ _ _ _ rfl ManyK.out Qv Qv H.v1 (by omega) (ndF_oneV _ ovg) rfl ?_
   intro w9 m9 k9 z9
   replace H := H.s1 k9 (m9.congr stP_whole)
   refine hK _ (fun _ _ => H.bel) ?_
   clear hK K
   refine j_nx ?_
   refine c_nx ?_
   refine c_rs ?_
   refine qa ?_
   refine qg (Eq.trans (run_loadP _ _ rfl ManyK.out Qv H.v0 (by omega)) (by rw [own_ax])) ?_
   refine qa ?_
   refine qg (Eq.trans (run_loadP _ _ rfl ManyK.out Qv H.v1 (by omega)) (by rw [ax_like hax])) ?_
   refine qg (run_neqSt3N (a := xb.ax) _ _ rfl Qv Qv _) ?_
   iterate 2 refine qa ?_
   refine qg (Eq.trans (run_loadP _ _ rfl ManyK.out Qv H.v0 (by omega)) (by rw [own_rl])) ?_
   refine qa ?_
   refine qg (Eq.trans (run_loadP _ _ rfl ManyK.out Qv H.v1 (by omega)) (by rw [rl_like hrl])) ?_
   refine qg (run_neqRlN (r := xb.rl) _ _ rfl Qv Qv _) ?_
   refine qg (run_pickF _ _ _ rfl Qv Qv _) ?_
   iterate 3 refine qa ?_
   rcases (show k = n ∨ (n < k ∧ k < n + 3) ∨ n + 3 ≤ k by omega) with hcase | hcase | hcase
   ·refine qg (run_gtrI (b := false) _ _ rfl Qv Qv (decide_eq_false (by omega)) _) ?_
    refine qa ?_
    iterate 5 refine q_skip ?_
    refine qg (run_pickF _ _ _ rfl Qv Qv _) ?_
    refine qg (run_pickF _ _ _ rfl Qv Qv _) ?_
    refine l_nx ?_
    refine q_no rfl (c_fin ?_)
    refine c_rs ?_
    iterate 3 refine qa ?_
    refine qg (run_geqI (b := false) _ _ rfl Qv Qv (decide_eq_false (by omega)) _) ?_
    refine qa ?_
    iterate 5 refine q_skip ?_
    refine qg (run_pickF _ _ _ rfl Qv Qv _) ?_
    refine l_nx ?_
    refine q_no rfl (c_finB ?_)
    refine c_region ?_
    repeat refine qa ?_
    exact l_round ⟨CL.length - (k + 1), by omega, k + 1, by omega, by omega, by omega, (szL _ _).trans hs, (defL _ _).trans hd, Qv, Qv, Qv, Qv, Eq.trans Qv (by rw [Int.natCast_add]; rfl), H.tl.tl⟩
   ·refine qg (run_gtrI (b := true) _ _ rfl Qv Qv (decide_eq_true (by omega)) _) ?_
    iterate 2 refine qa ?_
    refine qg (run_lod1 _ _ rfl OneK.out Qv H.v0 (by omega) (show _ = Value.int .i64 xb.dg from rfl)) ?_
    refine qa ?_
    refine qg (run_lod1 _ _ rfl OneK.out Qv H.v1 (by omega) (show _ = Value.int .i64 xg.dg from rfl)) ?_
    refine qg (run_neqI (b := false) _ _ rfl Qv Qv (decide_eq_false (fun e => e (hdgE (by omega)))) _) ?_
    refine qg (run_pickT' _ _ _ rfl Qv Qv _) ?_
    refine qg (run_pickF _ _ _ rfl Qv Qv _) ?_
    refine l_nx ?_
    refine q_no rfl (c_fin ?_)
    refine c_rs ?_
    iterate 3 refine qa ?_
    refine qg (run_geqI (b := false) _ _ rfl Qv Qv (decide_eq_false (by omega)) _) ?_
    refine qa ?_
    iterate 5 refine q_skip ?_
    refine qg (run_pickF _ _ _ rfl Qv Qv _) ?_
    refine l_nx ?_
    refine q_no rfl (c_finB ?_)
    refine c_region ?_
    repeat refine qa ?_
    exact l_round ⟨CL.length - (k + 1), by omega, k + 1, by omega, by omega, by omega, (szL _ _).trans hs, (defL _ _).trans hd, Qv, Qv, Qv, Qv, Eq.trans Qv (by rw [Int.natCast_add]; rfl), H.tl.tl⟩
   ·refine qg (run_gtrI (b := true) _ _ rfl Qv Qv (decide_eq_true (by omega)) _) ?_
    iterate 2 refine qa ?_
    refine qg (run_lod1 _ _ rfl OneK.out Qv H.v0 (by omega) (show _ = Value.int .i64 xb.dg from rfl)) ?_
    refine qa ?_
    refine qg (run_lod1 _ _ rfl OneK.out Qv H.v1 (by omega) (show _ = Value.int .i64 xg.dg from rfl)) ?_
    refine qg (run_neqI (b := false) _ _ rfl Qv Qv (decide_eq_false (fun e => e (hdgE (by omega)))) _) ?_
    refine qg (run_pickT' _ _ _ rfl Qv Qv _) ?_
    refine qg (run_pickF _ _ _ rfl Qv Qv _) ?_
    refine l_nx ?_
    refine q_no rfl (c_fin ?_)
    refine c_rs ?_
    iterate 3 refine qa ?_
    refine qg (run_geqI (b := true) _ _ rfl Qv Qv (decide_eq_true (by omega)) _) ?_
    iterate 3 refine qa ?_
    refine qg (Eq.trans (run_loadP _ _ rfl ManyK.out Qv H.v1 (by omega)) (by rw [in_like (hinE (by omega))])) ?_
    refine qg (run_bldT4' rfl (fun _ => Qv) _) ?_
    refine qg (run_neqB4N (g := fun _ => true) _ _ rfl Qv Qv _) ?_
    refine qg (run_pickT' _ _ _ rfl Qv Qv _) ?_
    refine l_nx ?_
    refine q_no rfl (c_finB ?_)
    refine c_region ?_
    repeat refine qa ?_
    exact l_round ⟨CL.length - (k + 1), by omega, k + 1, by omega, by omega, by omega, (szL _ _).trans hs, (defL _ _).trans hd, Qv, Qv, Qv, Qv, Eq.trans Qv (by rw [Int.natCast_add]; rfl), H.tl.tl⟩
  ·refine j_two ?_ ?_
   ·refine j_do rfl rfl (wanted_rd rfl) (fun K hK => ?_)
    refine wp_allocG _ _ rfl ZerK.out (of_decide_eq_true rfl) ?_
    intro w8 m8 k8 z8
    replace H := H.add k8 (vhI _ _ _ _ _) m8 (fun j e => Nat.le_of_eq e.symm)
    refine hK _ _ (fun _ h => h.trans (k8.mono h.size)) ?_
    clear hK K
    refine j_do rfl rfl (wanted_rd rfl) (fun K hK => ?_)
    refine wp_allocG _ _ rfl ZerK.out (of_decide_eq_true rfl) ?_
    intro w8 m8 k8 z8
    replace H := H.add k8 (vhI _ _ _ _ _) m8 (fun j e => Nat.le_of_eq e.symm)
    refine hK _ _ (fun _ h => h.trans (k8.mono h.size)) ?_
    clear hK K
    exact hcut _ _ ⟨_, _, (szL _ _).trans hs, (defL _ _).trans hd, Qv, Qv, Qv, Qv, Qv, Qv, Qv, Qv, Qv, H.f1⟩
   ·refine j_do rfl rfl (wanted_rd rfl) (fun K hK => ?_)
    refine wp_allocG _ _ rfl ZerK.out (of_decide_eq_true rfl) ?_
    intro w8 m8 k8 z8
    replace H := H.add k8 (vhI _ _ _ _ _) m8 (fun j e => Nat.le_of_eq e.symm)
    refine hK _ _ (fun _ h => h.trans (k8.mono h.size)) ?_
    clear hK K
    refine j_do rfl rfl (wanted_rd rfl) (fun K hK => ?_)
    refine wp_allocG _ _ rfl ZerK.out (of_decide_eq_true rfl) ?_
    intro w8 m8 k8 z8
    replace H := H.add k8 (vhI _ _ _ _ _) m8 (fun j e => Nat.le_of_eq e.symm)
    refine hK _ _ (fun _ h => h.trans (k8.mono h.size)) ?_
    clear hK K
    exact hcut _ _ ⟨_, _, (szL _ _).trans hs, (defL _ _).trans hd, Qv, Qv, Qv, Qv, Qv, Qv, Qv, Qv, Qv, H⟩
 ·refine c_exit (x_out ?_)
  refine c_rs ?_
  repeat first | refine qa ?_ | refine l_nx ?_
  exact c_ret (ret_of ((defL _ _).trans hd) (res_t rfl Qv) ⟨rfl, F.bel.trans (H.bel.mono F.size)⟩)
end Go.Proofs.YtdhblehhgpdpdacGreat
