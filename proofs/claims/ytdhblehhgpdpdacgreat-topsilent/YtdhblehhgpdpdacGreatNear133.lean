import Derived.Test.YtdhblehhgpdpdacGreatNear131
import Derived.Test.YtdhblehhgpdpdacGreatNear110
import Derived.Test.YtdhblehhgpdpdacGreatNear122
import Derived.Test.YtdhblehhgpdpdacGreatMemOK
import Derived.Test.YtdhblehhgpdpdacGreatNear50
namespace Go.Proofs.YtdhblehhgpdpdacGreat
open Go.ChangeShapes Go.WideShapes Go.ChangeAt Go.RowKit Go.Joins
set_option maxRecDepth 100000
instance : Inhabited Lj := ⟨⟨⟨0, 0, 0, fun _ => 0⟩, none, 0⟩⟩
instance : Inhabited Li := ⟨⟨fun _ _ => 0, 0, [], none, 0⟩⟩
theorem cellsLyN : Tryz.prog.cellsOf 35 = 3 := by kernel_rfl
theorem bytesLyN : Tryz.prog.bytesOf 35 = 40 := by kernel_rfl
theorem cellsIpN : Tryz.prog.cellsOf 31 = 14 := by kernel_rfl
theorem bytesIpN : Tryz.prog.bytesOf 31 = 128 := by kernel_rfl
theorem cellsU8N : Tryz.prog.cellsOf 33 = 1 := by kernel_rfl
theorem cellsLsN : Tryz.prog.cellsOf 29 = 1 := by kernel_rfl
section
variable {H : Type} {enc : TypeId × Value → H} {w : World} {base : Nat} {held : Bool}
theorem open_many {t e : TypeId} {s bytes : Nat} {α : Type} [Inhabited α] (F : α → Nat → Value) (R : α → Prop) (ht : Tryz.prog.underlying t = some (.slice e)) (hce : Tryz.prog.cellsOf e = s) (hbe : Tryz.prog.bytesOf e = bytes) (hs : 0 < s)
  (op : ∀ fuel cs x, DataW.trod enc Tryz.prog w base (fun _ => true) held fuel e cs = some x → (∀ n ∈ x.1.weights Tryz.prog e, n ≤ reachBytes) → ∃ c, cs.length = s ∧ (∀ j, j < s → cs[j]? = some (F c j)) ∧ R c)
  {fuel : Nat} {v : Value} {x : DataW H × List MemPlace} (h : DataW.trod enc Tryz.prog w base (fun _ => true) held fuel t [v] = some x) (hsz : ∀ n ∈ x.1.weights Tryz.prog t, n ≤ reachBytes) :
  ∃ (mo : Option Addr) (mc : Nat) (L : List α), v = .slice mo L.length mc ∧ RdS F s w mo L ∧ (∀ c, c ∈ L → R c) ∧ L.length * bytes ≤ reachBytes ∧ L.length ≤ mc := by
 rcases Go.Deep.open_slice ht h with ⟨hcs, _⟩ | ⟨a, len, c, m, n, D, Pl, hcs, _, hl, hm, hmm, ex, hx⟩
 ·simp at hcs
  exact ⟨none, 0, [], hcs, fun h => absurd h (by simp), fun _ h => absurd h (by simp), by show 0 * _ ≤ _; omega, Nat.le_refl _⟩
 ·simp at hcs
  subst hcs
  simp only [if_true] at hmm
  subst hmm
  have ex1 : x.1 = .slice ((List.range len).map D) ((List.range (m - len)).map fun j => D (len + j)) := congrArg Prod.fst ex
  have hw : ∀ i, i < len → ∀ k ∈ (D i).weights Tryz.prog e, k ≤ reachBytes := fun i hi k hk => hsz k (by
   rw [ex1]
   simp only [DataW.weights, ht]
   exact List.mem_cons_of_mem _ (List.mem_append.2 (Or.inl (weightsAll_memN (List.mem_map.2 ⟨i, List.mem_range.2 hi, rfl⟩) k hk))))
  have hb : m * bytes ≤ reachBytes := hsz _ (by
   rw [ex1]
   simp only [DataW.weights, ht, hbe]
   refine List.mem_cons.2 (Or.inl ?_)
   rw [List.length_map, List.length_map, List.length_range, List.length_range]
   congr 1
   omega)
  obtain ⟨G, hG⟩ := Go.Deep.choose_lt (α := α) (n := len) (p := fun i c => (∀ k, k < s → w.cell? ((a.add (i * s)).add k) = some (F c k)) ∧ R c) (fun i hi => by
   obtain ⟨cs', h1, h2⟩ := hx i (by omega)
   rw [hce] at h1
   obtain ⟨cc, e, h3, h4⟩ := op _ _ _ h2 (hw i hi)
   refine ⟨cc, fun k hk => ?_, h4⟩
   obtain ⟨_, _, hcc⟩ := World.cells?_some h1
   rw [hcc k hk, h3 k hk])
  have el : ((List.range len).map G).length = len := by simp
  have hat : ∀ i c, ((List.range len).map G)[i]? = some c → i < len ∧ c = G i := fun i c hi => by
   have hlt : i < len := by have := (List.getElem?_eq_some_iff.1 hi).1; rw [el] at this; exact this
   rw [List.getElem?_map, List.getElem?_range hlt] at hi
   exact ⟨hlt, (Option.some.inj hi).symm⟩
  refine ⟨some a, m, (List.range len).map G, by rw [el], fun hl0 => ?_, fun c hc => ?_, by rw [el]; exact Nat.le_trans (Nat.mul_le_mul_right _ hl) hb, by rw [el]; exact hl⟩
  ·rw [el] at hl0
   obtain ⟨b, o, spot⟩ := a
   have hn : spot = none := by
    have h0 : w.cell? (((⟨b, o, spot⟩ : Addr).add (0 * s)).add 0) = some (F (G 0) 0) := (hG 0 hl0).1 0 hs
    simpa [Addr.add] using World.cell?_spot h0
   subst hn
   refine ⟨b, o, rfl, fun i c hi k hk => ?_⟩
   obtain ⟨hlt, rfl⟩ := hat i c hi
   have := (hG i hlt).1 k hk
   rw [Addr.add_lit, Addr.add_lit] at this
   exact this
  ·obtain ⟨i, hi⟩ := List.getElem?_of_mem hc
   obtain ⟨hlt, rfl⟩ := hat i c hi
   exact (hG i hlt).2
theorem open_ljC (fuel : Nat) (cs : List Value) (x : DataW H × List MemPlace) (h : DataW.trod enc Tryz.prog w base (fun _ => true) held fuel 35 cs = some x) (hsz : ∀ n ∈ x.1.weights Tryz.prog 35, n ≤ reachBytes) :
  ∃ c : Lj, cs.length = 3 ∧ (∀ j, j < 3 → cs[j]? = some (ljF c j)) ∧ LbRd w c := by
 obtain ⟨xs, n, _, ex, hl, hlen, hf⟩ := DataW.trod_struct Tryz.underlying35 h
 rw [cellsLyN] at hl
 match cs, hl with
 | [c0, c1, c2], _ =>
  match xs, hlen with
  | [y0, y1, y2], _ =>
   have g0 : DataW.trod enc Tryz.prog w base (fun _ => true) held n 3 (List.take (Tryz.prog.cellsOf 3) [c0, c1, c2]) = some y0 := hf 0 _ rfl
   have g1 : DataW.trod enc Tryz.prog w base (fun _ => true) held n 3 (List.take (Tryz.prog.cellsOf 3) [c1, c2]) = some y1 := hf 1 _ rfl
   have g2 : DataW.trod enc Tryz.prog w base (fun _ => true) held n 33 (List.take (Tryz.prog.cellsOf 33) [c2]) = some y2 := hf 2 _ rfl
   rw [cellsIntN] at g0 g1
   rw [cellsU8N] at g2
   obtain ⟨a0, q0, _, w0⟩ := DataW.trod_int Tryz.underlying3 (show DataW.trod enc Tryz.prog w base (fun _ => true) held n 3 [c0] = some y0 from g0)
   obtain ⟨a1, q1, _, w1⟩ := DataW.trod_int Tryz.underlying3 (show DataW.trod enc Tryz.prog w base (fun _ => true) held n 3 [c1] = some y1 from g1)
   simp at q0 q1
   subst q0 q1
   have g2' : DataW.trod enc Tryz.prog w base (fun _ => true) held n 33 [c2] = some y2 := g2
   obtain ⟨ao, len, cap, g, rfl, ha⟩ := open_bytes g2' (fun k hk => hsz k (by
    rw [ex]
    simp only [DataW.weights, Tryz.underlying35, List.map, DataW.weightsEach]
    simp only [List.mem_append]
    exact Or.inr (Or.inr (Or.inl hk))))
   refine ⟨⟨⟨a0, a1, len, g⟩, ao, cap⟩, rfl, fun j hj => ?_, ha.1, ha.2.2.2, ha.2.1, ha.2.2.1⟩
   match j, hj with
   | 0, _ => rfl
   | 1, _ => rfl
   | 2, _ => rfl
theorem open_liC (fuel : Nat) (cs : List Value) (x : DataW H × List MemPlace) (h : DataW.trod enc Tryz.prog w base (fun _ => true) held fuel 31 cs = some x) (hsz : ∀ n ∈ x.1.weights Tryz.prog 31, n ≤ reachBytes) :
  ∃ c : Li, cs.length = 14 ∧ (∀ j, j < 14 → cs[j]? = some (inpF c j)) ∧ LiOK w c := by
 obtain ⟨xs, m, _, ex, hl, hlen, hx⟩ := DataW.trod_struct Tryz.underlying31 h
 have hl : cs.length = 14 := hl.trans cellsIpN
 have hlen : xs.length = 3 := hlen
 have p0 := flat_part (n := 12) Tryz.underlying31 (i := 0) rfl flat_i43 h
 have p1 := flat_part (n := 1) Tryz.underlying31 (i := 1) rfl flat_int h
 have h2 := hx 2 _ rfl
 rw [List.getElem?_eq_getElem (by omega)] at h2
 obtain ⟨y, ey⟩ : ∃ y, y = xs[2] := ⟨_, rfl⟩
 rw [← ey] at h2
 have h2' : DataW.trod enc Tryz.prog w base (fun _ => true) held m 29 ((cs.drop 13).take (Tryz.prog.cellsOf 29)) = some y := h2
 rw [cellsLsN] at h2'
 obtain ⟨c0, ec⟩ : ∃ c0, (cs.drop 13).take 1 = [c0] := by
  have : ((cs.drop 13).take 1).length = 1 := by rw [List.length_take, List.length_drop, hl]; rfl
  match hq : (cs.drop 13).take 1, this with
  | [c0], _ => exact ⟨c0, rfl⟩
 rw [ec] at h2'
 have hg : cs[13]? = some c0 := by rw [show (13 : Nat) = 13 + 0 from rfl, ← drop_take_get (n := 1) (by omega), ec]; rfl
 obtain ⟨lo, lc, LL, rfl, hr, hR, hb, hc⟩ := open_many ljF (LbRd w) Tryz.underlying29 cellsLyN bytesLyN (by omega) open_ljC h2' (fun n hn => hsz n (by
  rw [ex]
  simp only [DataW.weights, Tryz.underlying31]
  exact DataW.weights_mem_each (j := 2) (t := 29) (d := y.1) rfl (by rw [List.getElem?_map, List.getElem?_eq_getElem (by omega), ← ey]; rfl) n hn))
 have hk : ∀ j, j < 13 → CellK false (cs.getD j (.int .i64 0)) := fun j hj => by
  by_cases r0 : j < 12
  ·exact cells_of (o := 0) (K2 := fun _ => false) p0 (by omega) (by omega) (by omega) rfl
  ·exact cells_of (o := 12) (K2 := fun _ => false) p1 (by omega) (by omega) (by omega) rfl
 have hR64 : ∀ j, R64 (vI (cs.getD j (.int .i64 0))) := fun j => by
  by_cases hj : j < 13
  ·exact (hk j hj).R
  by_cases hj2 : j = 13
  ·rw [hj2, List.getD_eq_getElem?_getD, hg]; exact R64_nought
  ·rw [List.getD_eq_getElem?_getD, List.getElem?_eq_none (by omega)]; exact R64_nought
 have hat : ∀ j, j < 14 → cs[j]? = some (cs.getD j (.int .i64 0)) := fun j hj => by rw [List.getD_eq_getElem?_getD, List.getElem?_eq_getElem (by omega)]; rfl
 refine ⟨⟨fun s a => vI (cs.getD (s * 3 + a) (.int .i64 0)), vI (cs.getD 12 (.int .i64 0)), LL, lo, lc⟩, hl, fun j hj => ?_, ⟨⟨fun s a => hR64 _, hR64 _, fun y hy i => ?_⟩, ⟨hr, hR⟩, hc⟩⟩
 ·unfold inpF ipF
  dsimp only
  by_cases r0 : j < 12
  ·rw [if_pos r0, show j / 3 * 3 + j % 3 = j by omega, (hk j (by omega)).i]
   exact hat j hj
  by_cases r1 : j = 12
  ·rw [if_neg r0, if_pos r1, (hk 12 (by omega)).i, r1]
   exact hat 12 (by omega)
  ·rw [if_neg r0, if_neg r1, show j = 13 by omega]
   exact hg
 ·obtain ⟨c, hcm, rfl⟩ := List.mem_map.1 hy
  exact (hR c hcm).2.2.2 i
theorem open_inpsArg {r : Reach} {b0 : Nat} {v : Value} {d : DataW H} {p : List MemPlace} (hv : Value.okWide Tryz.prog w r b0 24 v) (h : DataW.Trod enc Tryz.prog w base (fun _ => true) held 24 v d p) (hsz : ∀ n ∈ d.weights Tryz.prog 24, n ≤ reachBytes) :
  ∃ (mo : Option Addr) (mc : Nat) (L : List Li), v = .slice mo L.length mc ∧ RdS inpF 14 w mo L ∧ (∀ c, c ∈ L → LiOK w c) ∧ L.length * 128 ≤ reachBytes ∧ L.length ≤ mc := by
 obtain ⟨ao, len, cap, rfl⟩ := okWide_slice Tryz.underlying24 hv
 obtain ⟨fuel, hf⟩ := h
 have hf' : DataW.trod enc Tryz.prog w base (fun _ => true) held fuel 24 [.slice ao len cap] = some (d, p) := hf
 exact open_many inpF (LiOK w) Tryz.underlying24 cellsIpN bytesIpN (by omega) open_liC hf' hsz
end
end Go.Proofs.YtdhblehhgpdpdacGreat
namespace Go.Proofs.YtdhblehhgpdpdacGreat
open Go.RowKit
def RlE (r s : Rl) : Prop := ∀ j, j < 4 → r.I j = s.I j ∧ r.M j = s.M j ∧ r.J j = s.J j
theorem RlE.symm {r s : Rl} (h : RlE r s) : RlE s r := fun j hj => ⟨(h j hj).1.symm, (h j hj).2.1.symm, (h j hj).2.2.symm⟩
theorem RlE.trans {r s t : Rl} (h : RlE r s) (h' : RlE s t) : RlE r t := fun j hj => ⟨(h j hj).1.trans (h' j hj).1, (h j hj).2.1.trans (h' j hj).2.1, (h j hj).2.2.trans (h' j hj).2.2⟩
theorem RlE.refl (r : Rl) : RlE r r := fun _ _ => ⟨rfl, rfl, rfl⟩
theorem insL_congr {b b' : Nat → Bool} {f f' : Nat → Int} : ∀ {k : Nat}, (∀ i, i < k → b i = b' i ∧ f i = f' i) → insL b f k = insL b' f' k
 | 0, _ => rfl
 | k + 1, h => by
  show insL b f k ++ _ = insL b' f' k ++ _
  rw [insL_congr (fun i hi => h i (by omega)), (h k (by omega)).1, (h k (by omega)).2]
theorem ctN8_congr {f g : Nat → Int} : ∀ {k : Nat}, (∀ i, i < k → f i = g i) → ctN8 f k = ctN8 g k
 | 0, _ => rfl
 | k + 1, h => by
  show wrap64 (wrap64 (8 * ctN8 f k) + f k) = wrap64 (wrap64 (8 * ctN8 g k) + g k)
  rw [ctN8_congr (fun i hi => h i (by omega)), h k (by omega)]
theorem pck_congr {ax bx : Nat → St} {r s : Rl} (h : ∀ a, a < 3 → ax a = bx a) (hr : RlE r s) : pck ax r = pck bx s := by
 unfold pck inN
 rw [h 0 (by omega), h 1 (by omega), h 2 (by omega), ctN8_congr (fun i hi => (hr i hi).2.1), ctN8_congr (fun i hi => (hr i hi).2.2), (hr 0 (by omega)).1, (hr 1 (by omega)).1, (hr 2 (by omega)).1, (hr 3 (by omega)).1]
theorem dgN_congr {ax bx : Nat → St} {r s : Rl} (h : ∀ a, a < 3 → ax a = bx a) (hr : RlE r s) : dgN ax r = dgN bx s := by
 have e : pckB ax r = pckB bx s := by
  funext i
  unfold pckB
  rw [pck_congr h hr]
 unfold dgN
 rw [e]
theorem stN_congr {A A' : Nat → Bool} {r s : Rl} {i : Nat} (hi : i < 4) (hA : A i = A' i) (h : RlE r s) : RlE (stN A i r) (stN A' i s) := by
 have h4 : cn r.I 4 = cn s.I 4 := cn_congr fun j hj => (h j hj).1
 have hu : ∀ (j : Nat) (α : Type) (f g : Nat → α) (y z : α), f j = g j → y = z → upM f i y j = upM g i z j := fun j α f g y z e1 e2 => by
  unfold upM; rw [e1, e2]
 intro j hj
 obtain ⟨a1, a2, a3⟩ := h j hj
 obtain ⟨b1, b2, b3⟩ := h i hi
 unfold stN
 rw [← hA, ← b1, ← b2, ← b3, ← h4]
 split
 ·split
  ·exact ⟨a1, hu j Int _ _ _ _ a2 rfl, a3⟩
  ·split
   ·exact ⟨hu j Bool _ _ _ _ a1 rfl, hu j Int _ _ _ _ a2 rfl, a3⟩
   ·exact ⟨a1, hu j Int _ _ _ _ a2 rfl, a3⟩
 ·split
  ·split
   ·exact ⟨hu j Bool _ _ _ _ a1 rfl, a2, hu j Int _ _ _ _ a3 rfl⟩
   ·exact ⟨a1, a2, hu j Int _ _ _ _ a3 rfl⟩
  ·exact ⟨a1, a2, hu j Int _ _ _ _ a3 rfl⟩
theorem rnN_congr {A A' : Nat → Bool} {r s : Rl} (hA : ∀ i, i < 4 → A i = A' i) (h : RlE r s) : ∀ k, k ≤ 4 → RlE (rnN A r k).1 (rnN A' s k).1
 | 0, _ => h
 | k + 1, hk => stN_congr (by omega) (hA k (by omega)) (rnN_congr hA h k (by omega))
theorem vote_three {v : Nat → Int} {b : Nat → Bool} {D bad : Int} (h : ∀ s : Nat, s < 4 → (s : Int) ≠ bad → v s = D ∧ b s = true) : vtX v b 4 = D ∧ vtS v b D = true ∧ 0 < ti b 4 := by
 have p : ∀ s : Nat, s < 4 → (s : Int) ≠ bad → (if b s = true ∧ v s = D then 1 else 0) = 1 := fun s hs g => if_pos ⟨(h s hs g).2, (h s hs g).1⟩
 have k3 : 3 ≤ vk b v D 4 := by
  have p0 := p 0 (by omega); have p1 := p 1 (by omega); have p2 := p 2 (by omega); have p3 := p 3 (by omega)
  show 3 ≤ (((0 + if b 0 = true ∧ v 0 = D then 1 else 0) + if b 1 = true ∧ v 1 = D then 1 else 0) + if b 2 = true ∧ v 2 = D then 1 else 0) + if b 3 = true ∧ v 3 = D then 1 else 0
  generalize (if b 0 = true ∧ v 0 = D then 1 else 0) = y0 at *
  generalize (if b 1 = true ∧ v 1 = D then 1 else 0) = y1 at *
  generalize (if b 2 = true ∧ v 2 = D then 1 else 0) = y2 at *
  generalize (if b 3 = true ∧ v 3 = D then 1 else 0) = y3 at *
  omega
 have k1 : ∀ u, u ≠ D → vk b v u 4 ≤ 1 := fun u hu => by
  have q : ∀ s : Nat, s < 4 → (s : Int) ≠ bad → (if b s = true ∧ v s = u then 1 else 0) = 0 := fun s hs g => if_neg (by rintro ⟨_, e⟩; exact hu (e.symm.trans (h s hs g).1))
  have l : ∀ s : Nat, (if b s = true ∧ v s = u then 1 else 0) ≤ 1 := fun s => by split <;> omega
  have p0 := q 0 (by omega); have p1 := q 1 (by omega); have p2 := q 2 (by omega); have p3 := q 3 (by omega)
  have l0 := l 0; have l1 := l 1; have l2 := l 2; have l3 := l 3
  show (((0 + if b 0 = true ∧ v 0 = u then 1 else 0) + if b 1 = true ∧ v 1 = u then 1 else 0) + if b 2 = true ∧ v 2 = u then 1 else 0) + (if b 3 = true ∧ v 3 = u then 1 else 0) ≤ 1
  generalize (if b 0 = true ∧ v 0 = u then 1 else 0) = y0 at *
  generalize (if b 1 = true ∧ v 1 = u then 1 else 0) = y1 at *
  generalize (if b 2 = true ∧ v 2 = u then 1 else 0) = y2 at *
  generalize (if b 3 = true ∧ v 3 = u then 1 else 0) = y3 at *
  omega
 have all : ∀ i, vk b v (v i) 4 ≤ vk b v D 4 := fun i => by
  by_cases e : v i = D
  ·rw [e]; exact Nat.le_refl _
  ·have := k1 _ e; omega
 have hV : IsV v b 4 D := by
  by_cases c : b 0 = true ∧ v 0 = D
  ·exact Or.inr ⟨0, by omega, c.1, c.2.symm, fun i _ _ => all i, fun i hi => by omega⟩
  ·have g0 : (0 : Int) = bad := by
    by_cases g : ((0 : Nat) : Int) = bad
    ·exact g
    ·exact absurd ⟨(h 0 (by omega) g).2, (h 0 (by omega) g).1⟩ c
   have h1 := h 1 (by omega) (by omega)
   refine Or.inr ⟨1, by omega, h1.2, h1.1.symm, fun i _ _ => all i, fun i hi hb => ?_⟩
   obtain rfl : i = 0 := by omega
   have : v 0 ≠ D := fun e => c ⟨hb, e⟩
   have := k1 _ this; omega
 have t1 := vk_le_tt b v D 4
 have t2 := ti_le b 4
 refine ⟨(vtX_at hV).symm, ?_, by omega⟩
 unfold vtS
 exact decide_eq_true ⟨by omega, by omega⟩
section
variable {x : Ip} {c : Cl}
theorem n5_tn (hE : frE x c = 0) {i : Nat} (hi : i < 4) (g : (i : Int) ≠ x.bad) : (ndK x c 5 i).tn = (c.nd i).tn := by rw [jud_at hE hi g, pas_at hE hi g, dec_at hE hi g, rel_atC hE hi g, sen_at hE hi g]
theorem n5_ag (hE : frE x c = 0) {i : Nat} (hi : i < 4) (g : (i : Int) ≠ x.bad) : (ndK x c 5 i).ag = (ndK x c 3 i).ag := by rw [jud_at hE hi g, pas_at hE hi g]
theorem n5_us (hE : frE x c = 0) {i : Nat} (hi : i < 4) (g : (i : Int) ≠ x.bad) : (ndK x c 5 i).us = (ndK x c 3 i).us := by rw [jud_at hE hi g, pas_at hE hi g]
theorem n5_ax (hE : frE x c = 0) {i : Nat} (hi : i < 4) (g : (i : Int) ≠ x.bad) : (ndK x c 5 i).ax = (ndK x c 3 i).ax := by rw [jud_at hE hi g, pas_at hE hi g]
theorem n5_dg (hE : frE x c = 0) {i : Nat} (hi : i < 4) (g : (i : Int) ≠ x.bad) : (ndK x c 5 i).dg = (ndK x c 3 i).dg := by rw [jud_at hE hi g, pas_at hE hi g]
theorem n2_rl (hE : frE x c = 0) {i : Nat} (hi : i < 4) (g : (i : Int) ≠ x.bad) : (ndK x c 2 i).rl = (c.nd i).rl := by rw [rel_atC hE hi g, sen_at hE hi g]
theorem n2_ax (hE : frE x c = 0) {i : Nat} (hi : i < 4) (g : (i : Int) ≠ x.bad) : (ndK x c 2 i).ax = (c.nd i).ax := by rw [rel_atC hE hi g, sen_at hE hi g]
theorem n2_tn (hE : frE x c = 0) {i : Nat} (hi : i < 4) (g : (i : Int) ≠ x.bad) : (ndK x c 2 i).tn = (c.nd i).tn := by rw [rel_atC hE hi g, sen_at hE hi g]
theorem n4_rl (hE : frE x c = 0) {i : Nat} (hi : i < 4) (g : (i : Int) ≠ x.bad) : (ndK x c 4 i).rl = (c.nd i).rl := by rw [pas_at hE hi g, dec_at hE hi g]; exact n2_rl hE hi g
theorem us_at (hE : frE x c = 0) {i : Nat} (hi : i < 4) (g : (i : Int) ≠ x.bad) (a : Nat) : (ndK x c 3 i).us a = midL (insL (c.nd i).rl.I (fun s => (ndK x c 3 i).ag s a) 4) := by
 rw [dec_at hE hi g, ← n2_rl hE hi g]; rfl
theorem ax_at (hE : frE x c = 0) {i : Nat} (hi : i < 4) (g : (i : Int) ≠ x.bad) (a : Nat) : (ndK x c 3 i).ax a = stepS ((c.nd i).ax a) (c.nd i).tn ((ndK x c 3 i).us a) := by
 rw [dec_at hE hi g, ← n2_ax hE hi g, ← n2_tn hE hi g]; rfl
theorem dg_at (hE : frE x c = 0) {i : Nat} (hi : i < 4) (g : (i : Int) ≠ x.bad) : (ndK x c 3 i).dg = dgN (ndK x c 3 i).ax (c.nd i).rl := by
 rw [dec_at hE hi g, ← n2_rl hE hi g]; rfl
theorem us_same (hE : frE x c = 0) {i k : Nat} (hi : i < 4) (hk : k < 4) (gi : (i : Int) ≠ x.bad) (gk : (k : Int) ≠ x.bad) (hr : RlE (c.nd i).rl (c.nd k).rl) {a : Nat} (ha : a < 3) : (ndK x c 3 i).us a = (ndK x c 3 k).us a := by
 rw [us_at hE hi gi, us_at hE hk gk, insL_congr fun s hs => ⟨(hr s hs).1, ag_same hE hi hk hs gi gk ha⟩]
theorem ax_same (hE : frE x c = 0) {i k : Nat} (hi : i < 4) (hk : k < 4) (gi : (i : Int) ≠ x.bad) (gk : (k : Int) ≠ x.bad) (ht : (c.nd i).tn = (c.nd k).tn) (ha : ∀ a, a < 3 → (c.nd i).ax a = (c.nd k).ax a) (hr : RlE (c.nd i).rl (c.nd k).rl) {a : Nat} (h3 : a < 3) : (ndK x c 3 i).ax a = (ndK x c 3 k).ax a := by
 rw [ax_at hE hi gi, ax_at hE hk gk, us_same hE hi hk gi gk hr h3, ht, ha a h3]
theorem dg_same (hE : frE x c = 0) {i k : Nat} (hi : i < 4) (hk : k < 4) (gi : (i : Int) ≠ x.bad) (gk : (k : Int) ≠ x.bad) (ht : (c.nd i).tn = (c.nd k).tn) (ha : ∀ a, a < 3 → (c.nd i).ax a = (c.nd k).ax a) (hr : RlE (c.nd i).rl (c.nd k).rl) : (ndK x c 3 i).dg = (ndK x c 3 k).dg := by
 rw [dg_at hE hi gi, dg_at hE hk gk, dgN_congr (fun a h3 => ax_same hE hi hk gi gk ht ha hr h3) hr]
theorem jud_three (hE : frE x c = 0) {i : Nat} {D bad : Int} (hi : i < 4) (gi : (i : Int) ≠ x.bad) (h : ∀ s : Nat, s < 4 → (s : Int) ≠ bad → vtK x c i s = D ∧ (c.nd i).rl.I s = true) :
  (ndK x c 5 i).vX = D ∧ (ndK x c 5 i).vS = true ∧ (∀ s, judA (ndK x c 4 i) (bxK x c 4 i) s = decide (vtK x c i s = D)) := by
 obtain ⟨h1, h2, h3⟩ := vote_three (v := vtK x c i) h
 have e : judX (ndK x c 4 i) (bxK x c 4 i) = D := by
  unfold judX; rw [n4_rl hE hi gi]; exact h1
 refine ⟨?_, ?_, fun s => ?_⟩
 ·rw [jud_at hE hi gi]; exact e
 ·rw [jud_at hE hi gi]
  show judS _ _ = true
  unfold judS; rw [e, n4_rl hE hi gi]; exact h2
 ·unfold judA vtA
  rw [e, n4_rl hE hi gi]
  exact decide_eq_decide.2 ⟨fun q => q.2, fun q => ⟨h3, q⟩⟩
theorem rl_three (hE : frE x c = 0) {i : Nat} {D bad : Int} (hi : i < 4) (gi : (i : Int) ≠ x.bad) (hg : gdA (c.nd i).rl = true) (h : ∀ s : Nat, s < 4 → (s : Int) ≠ bad → vtK x c i s = D ∧ (c.nd i).rl.I s = true) :
  (ndK x c 5 i).rl = (rnN (fun s => decide (vtK x c i s = D)) (c.nd i).rl 4).1 := by
 obtain ⟨_, h2, h3⟩ := jud_three hE hi gi h
 have e2 : judS (ndK x c 4 i) (bxK x c 4 i) = true := by rw [jud_at hE hi gi] at h2; exact h2
 have e3 : judA (ndK x c 4 i) (bxK x c 4 i) = fun s => decide (vtK x c i s = D) := funext h3
 rw [jud_at hE hi gi]
 show judR _ _ = _
 unfold judR
 rw [e2, e3, n4_rl hE hi gi, stR_strong hg, if_pos rfl]
theorem vA_three (hE : frE x c = 0) {i : Nat} {D bad : Int} (hi : i < 4) (gi : (i : Int) ≠ x.bad) (h : ∀ s : Nat, s < 4 → (s : Int) ≠ bad → vtK x c i s = D ∧ (c.nd i).rl.I s = true) :
  (ndK x c 5 i).vA = (List.range 4).map fun s => decide (vtK x c i s = D) := by
 obtain ⟨_, _, h3⟩ := jud_three hE hi gi h
 rw [jud_at hE hi gi]
 show (List.range 4).map _ = _
 rw [funext h3]
theorem frN_still (hE : frE x c = 0) {i : Nat} (hi : i < 4) (gi : (i : Int) ≠ x.bad) (h : (ndK x c 5 i).vX = (ndK x c 5 i).dg) : frN x c i = ndK x c 5 i := by
 unfold frN
 rw [if_neg gi]
 show cloN (ndK x c 5 i) (bxK x c 5 i) = _
 unfold cloN cloV
 rw [if_neg (by rw [id5 hE hi gi, noN_at hi]; decide), if_neg (fun q => q.2 h)]
end
theorem frN_bad {x : Ip} {c : Cl} {i : Nat} (h : (i : Int) = x.bad) : frN x c i = c.nd i := if_pos h
structure Inv (t : Tn) (bad : Int) (c : Cl) : Prop where
 id : ∀ i, i < 4 → (c.nd i).id = (i : Nat)
 tn : ∀ i, i < 4 → (c.nd i).tn = t
 ax : ∀ i k : Nat, i < 4 → k < 4 → (i : Int) ≠ bad → (k : Int) ≠ bad → ∀ a, a < 3 → (c.nd i).ax a = (c.nd k).ax a
 rl : ∀ i k : Nat, i < 4 → k < 4 → (i : Int) ≠ bad → (k : Int) ≠ bad → RlE (c.nd i).rl (c.nd k).rl
 gd : ∀ i : Nat, i < 4 → (i : Int) ≠ bad → gdA (c.nd i).rl = true
 on : ∀ i s : Nat, i < 4 → s < 4 → (i : Int) ≠ bad → (s : Int) ≠ bad → (c.nd i).rl.I s = true ∧ (c.nd i).rl.M s = 0
theorem begN_at (t : Tn) {i : Nat} (hi : i < 4) : begN (i : Nat) t = { zeroN with id := (i : Nat), tn := t, ax := fun _ => St.beg0, rl := beginR } := by
 unfold begN; rw [if_neg (by rw [noN_at hi]; decide)]
theorem begC_inv (t : Tn) (bad : Int) : Inv t bad (begC t) where
 id i hi := by show (begN (i : Nat) t).id = _; rw [begN_at t hi]
 tn i hi := by show (begN (i : Nat) t).tn = _; rw [begN_at t hi]
 ax i k hi hk _ _ a _ := by show (begN (i : Nat) t).ax a = (begN (k : Nat) t).ax a; rw [begN_at t hi, begN_at t hk]
 rl i k hi hk _ _ := by show RlE (begN (i : Nat) t).rl (begN (k : Nat) t).rl; rw [begN_at t hi, begN_at t hk]; exact RlE.refl _
 gd i hi _ := by show gdA (begN (i : Nat) t).rl = true; rw [begN_at t hi]; rfl
 on i s hi _ _ _ := by show (begN (i : Nat) t).rl.I s = true ∧ (begN (i : Nat) t).rl.M s = 0; rw [begN_at t hi]; exact ⟨rfl, rfl⟩
section
variable {t : Tn} {bad : Int} {x : Ip} {c : Cl}
theorem dg_all (h : Inv t bad c) (hb : x.bad = bad) (hE : frE x c = 0) {i k : Nat} (hi : i < 4) (hk : k < 4) (gi : (i : Int) ≠ bad) (gk : (k : Int) ≠ bad) : (ndK x c 3 i).dg = (ndK x c 3 k).dg :=
 dg_same hE hi hk (by rw [hb]; exact gi) (by rw [hb]; exact gk) ((h.tn i hi).trans (h.tn k hk).symm) (h.ax i k hi hk gi gk) (h.rl i k hi hk gi gk)
theorem vt_all (h : Inv t bad c) (hb : x.bad = bad) (hE : frE x c = 0) {i : Nat} (hi : i < 4) (gi : (i : Int) ≠ bad) : ∀ s : Nat, s < 4 → (s : Int) ≠ bad → vtK x c i s = (ndK x c 3 i).dg ∧ (c.nd i).rl.I s = true := fun s hs gs =>
 ⟨(vt_good hE hi hs (by rw [hb]; exact gi) (by rw [hb]; exact gs)).trans (dg_all h hb hE hs hi gs gi), (h.on i s hi hs gi gs).1⟩
theorem vX_good (h : Inv t bad c) (hb : x.bad = bad) (hE : frE x c = 0) {i : Nat} (hi : i < 4) (gi : (i : Int) ≠ bad) : (ndK x c 5 i).vX = (ndK x c 5 i).dg := by
 rw [n5_dg hE hi (by rw [hb]; exact gi)]
 exact (jud_three hE hi (by rw [hb]; exact gi) (vt_all h hb hE hi gi)).1
theorem fr_good (h : Inv t bad c) (hb : x.bad = bad) (hE : frE x c = 0) {i : Nat} (hi : i < 4) (gi : (i : Int) ≠ bad) : frN x c i = ndK x c 5 i := frN_still hE hi (by rw [hb]; exact gi) (vX_good h hb hE hi gi)
theorem rl_good (h : Inv t bad c) (hb : x.bad = bad) (hE : frE x c = 0) {i : Nat} (hi : i < 4) (gi : (i : Int) ≠ bad) : (ndK x c 5 i).rl = (rnN (fun s => decide (vtK x c i s = (ndK x c 3 i).dg)) (c.nd i).rl 4).1 := rl_three hE hi (by rw [hb]; exact gi) (h.gd i hi gi) (vt_all h hb hE hi gi)
theorem vt_like (h : Inv t bad c) (hb : x.bad = bad) (hE : frE x c = 0) {i k s : Nat} (hi : i < 4) (hk : k < 4) (hs : s < 4) (gi : (i : Int) ≠ bad) (gk : (k : Int) ≠ bad) : decide (vtK x c i s = (ndK x c 3 i).dg) = decide (vtK x c k s = (ndK x c 3 k).dg) := by
 rw [vt_same hE hi hk hs (by rw [hb]; exact gi) (by rw [hb]; exact gk), dg_all h hb hE hi hk gi gk]
theorem vA_like (h : Inv t bad c) (hb : x.bad = bad) (hE : frE x c = 0) {i k : Nat} (hi : i < 4) (hk : k < 4) (gi : (i : Int) ≠ bad) (gk : (k : Int) ≠ bad) : (ndK x c 5 i).vA = (ndK x c 5 k).vA := by
 rw [vA_three hE hi (by rw [hb]; exact gi) (vt_all h hb hE hi gi), vA_three hE hk (by rw [hb]; exact gk) (vt_all h hb hE hk gk)]
 refine List.map_congr_left fun s hs => ?_
 exact vt_like h hb hE hi hk (List.mem_range.1 hs) gi gk
theorem inv_step (h : Inv t bad c) (hb : x.bad = bad) (hE : frE x c = 0) : Inv t bad ⟨c.fr + 1, frN x c⟩ where
 id i hi := by
  show (frN x c i).id = _
  by_cases g : (i : Int) = bad
  ·rw [frN_bad (by rw [hb]; exact g)]; exact h.id i hi
  ·rw [fr_good h hb hE hi g]; exact id5 hE hi (by rw [hb]; exact g)
 tn i hi := by
  show (frN x c i).tn = _
  by_cases g : (i : Int) = bad
  ·rw [frN_bad (by rw [hb]; exact g)]; exact h.tn i hi
  ·rw [fr_good h hb hE hi g, n5_tn hE hi (by rw [hb]; exact g)]; exact h.tn i hi
 ax i k hi hk gi gk a ha := by
  show (frN x c i).ax a = (frN x c k).ax a
  rw [fr_good h hb hE hi gi, fr_good h hb hE hk gk, n5_ax hE hi (by rw [hb]; exact gi), n5_ax hE hk (by rw [hb]; exact gk)]
  exact ax_same hE hi hk (by rw [hb]; exact gi) (by rw [hb]; exact gk) ((h.tn i hi).trans (h.tn k hk).symm) (h.ax i k hi hk gi gk) (h.rl i k hi hk gi gk) ha
 rl i k hi hk gi gk := by
  show RlE (frN x c i).rl (frN x c k).rl
  rw [fr_good h hb hE hi gi, fr_good h hb hE hk gk, rl_good h hb hE hi gi, rl_good h hb hE hk gk]
  exact rnN_congr (fun s hs => vt_like h hb hE hi hk hs gi gk) (h.rl i k hi hk gi gk) 4 (Nat.le_refl _)
 gd i hi gi := by
  show gdA (frN x c i).rl = true
  rw [fr_good h hb hE hi gi, rl_good h hb hE hi gi]
  exact rn_good (h.gd i hi gi) 4
 on i s hi hs gi gs := by
  show (frN x c i).rl.I s = true ∧ (frN x c i).rl.M s = 0
  rw [fr_good h hb hE hi gi, rl_good h hb hE hi gi]
  obtain ⟨a, b⟩ := h.on i s hi hs gi gs
  have := rn_stays (A := fun s => decide (vtK x c i s = (ndK x c 3 i).dg)) a b (decide_eq_true ((vt_all h hb hE hi gi) s hs gs).1) 4
  exact ⟨this.1, this.2.1⟩
end
end Go.Proofs.YtdhblehhgpdpdacGreat
namespace Go.Proofs.YtdhblehhgpdpdacGreat
open Go.RowKit
theorem midL_in {f : Nat → Int} {n : Nat} {lo hi : Int} (h1 : 1 ≤ n) (h2 : n ≤ 64) (hl : cl f n lo ≤ (n - 1) / 3) (hh : n - 1 - (n - 1) / 3 < cl f n hi + ce f n hi) : lo ≤ midL (lsN f n) ∧ midL (lsN f n) ≤ hi := by
 obtain ⟨m, hm⟩ := mid_ex f n h1
 rw [← midL_at h1 h2 hm]
 obtain ⟨a, b, ha, hb, rfl⟩ := hm
 have k1 := rk_ge ha hl
 have k2 := rk_le hb hh
 have k3 := rk_mono ha hb (by omega)
 omega
def skI (b i : Nat) : Nat := if i < b then i else i + 1
theorem insL_all {b : Nat → Bool} {f : Nat → Int} (h : ∀ s, s < 4 → b s = true) : insL b f 4 = lsN f 4 := by
 show (((([] ++ _) ++ _) ++ _) ++ _) = _
 rw [h 0 (by omega), h 1 (by omega), h 2 (by omega), h 3 (by omega)]
 rfl
theorem insL_but {b : Nat → Bool} {f : Nat → Int} {q : Nat} (hq : q < 4) (h0 : b q = false) (h : ∀ s, s < 4 → s ≠ q → b s = true) : insL b f 4 = lsN (fun i => f (skI q i)) 3 := by
 show (((([] ++ _) ++ _) ++ _) ++ _) = _
 rcases four hq with rfl | rfl | rfl | rfl
 ·rw [h0, h 1 (by omega) (by omega), h 2 (by omega) (by omega), h 3 (by omega) (by omega)]; rfl
 ·rw [h0, h 0 (by omega) (by omega), h 2 (by omega) (by omega), h 3 (by omega) (by omega)]; rfl
 ·rw [h0, h 0 (by omega) (by omega), h 1 (by omega) (by omega), h 3 (by omega) (by omega)]; rfl
 ·rw [h0, h 0 (by omega) (by omega), h 1 (by omega) (by omega), h 2 (by omega) (by omega)]; rfl
theorem ind_if (p : Prop) [Decidable p] : (p → ind p = 1) ∧ (¬ p → ind p = 0) := ⟨ind_yes, ind_no⟩
theorem mid_good {b : Nat → Bool} {f : Nat → Int} {bad lo hi : Int} (h : ∀ s : Nat, s < 4 → (s : Int) ≠ bad → b s = true ∧ lo ≤ f s ∧ f s ≤ hi) : lo ≤ midL (insL b f 4) ∧ midL (insL b f 4) ≤ hi := by
 by_cases ha : ∀ s, s < 4 → b s = true
 ·rw [insL_all ha]
  have h0 := h 0 (by omega); have h1 := h 1 (by omega); have h2 := h 2 (by omega); have h3 := h 3 (by omega)
  refine midL_in (by omega) (by omega) ?_ ?_
  ·rw [cl4]
   have i0 := ind_if (f 0 < lo); have i1 := ind_if (f 1 < lo); have i2 := ind_if (f 2 < lo); have i3 := ind_if (f 3 < lo)
   have j0 := ind_le (f 0 < lo); have j1 := ind_le (f 1 < lo); have j2 := ind_le (f 2 < lo); have j3 := ind_le (f 3 < lo)
   generalize ind (f 0 < lo) = y0 at *
   generalize ind (f 1 < lo) = y1 at *
   generalize ind (f 2 < lo) = y2 at *
   generalize ind (f 3 < lo) = y3 at *
   by_cases c0 : ((0 : Nat) : Int) = bad
   ·have := i1.2 (by have := (h1 (by omega)).2; omega); have := i2.2 (by have := (h2 (by omega)).2; omega); have := i3.2 (by have := (h3 (by omega)).2; omega); omega
   ·have := i0.2 (by have := (h0 c0).2; omega)
    by_cases c1 : ((1 : Nat) : Int) = bad
    ·have := i2.2 (by have := (h2 (by omega)).2; omega); have := i3.2 (by have := (h3 (by omega)).2; omega); omega
    ·have := i1.2 (by have := (h1 c1).2; omega)
     by_cases c2 : ((2 : Nat) : Int) = bad
     ·have := i3.2 (by have := (h3 (by omega)).2; omega); omega
     ·have := i2.2 (by have := (h2 c2).2; omega); omega
  ·rw [cle4]
   have i0 := ind_if (f 0 ≤ hi); have i1 := ind_if (f 1 ≤ hi); have i2 := ind_if (f 2 ≤ hi); have i3 := ind_if (f 3 ≤ hi)
   generalize ind (f 0 ≤ hi) = y0 at *
   generalize ind (f 1 ≤ hi) = y1 at *
   generalize ind (f 2 ≤ hi) = y2 at *
   generalize ind (f 3 ≤ hi) = y3 at *
   by_cases c0 : ((0 : Nat) : Int) = bad
   ·have := i1.1 (h1 (by omega)).2.2; have := i2.1 (h2 (by omega)).2.2; have := i3.1 (h3 (by omega)).2.2; omega
   ·have := i0.1 (h0 c0).2.2
    by_cases c1 : ((1 : Nat) : Int) = bad
    ·have := i2.1 (h2 (by omega)).2.2; have := i3.1 (h3 (by omega)).2.2; omega
    ·have := i1.1 (h1 c1).2.2
     by_cases c2 : ((2 : Nat) : Int) = bad
     ·have := i3.1 (h3 (by omega)).2.2; omega
     ·have := i2.1 (h2 c2).2.2; omega
 ·obtain ⟨q, hq, h0⟩ : ∃ q, q < 4 ∧ b q = false := by
   by_cases b0 : b 0 = true
   ·by_cases b1 : b 1 = true
    ·by_cases b2 : b 2 = true
     ·by_cases b3 : b 3 = true
      ·exact absurd (fun s hs => by rcases four hs with rfl | rfl | rfl | rfl <;> assumption) ha
      ·exact ⟨3, by omega, by simpa using b3⟩
     ·exact ⟨2, by omega, by simpa using b2⟩
    ·exact ⟨1, by omega, by simpa using b1⟩
   ·exact ⟨0, by omega, by simpa using b0⟩
  have hqb : (q : Int) = bad := by
   by_cases e : (q : Int) = bad
   ·exact e
   ·rw [(h q hq e).1] at h0; cases h0
  rw [insL_but hq h0 (fun s hs hn => (h s hs (by omega)).1)]
  obtain ⟨m, hm⟩ := mid_ex (fun i => f (skI q i)) 3 (by omega)
  rw [← midL_at (by omega) (by omega) hm]
  refine mid_within hm fun i hi => ?_
  have : skI q i < 4 ∧ skI q i ≠ q := by unfold skI; split <;> omega
  exact (h _ this.1 (by omega)).2
section
variable {t : Tn} {bad : Int} {x : Ip} {c : Cl}
theorem us_within (h : Inv t bad c) (hb : x.bad = bad) (hE : frE x c = 0) {i a : Nat} (hi : i < 4) (gi : (i : Int) ≠ bad) (ha : a < 3) {lo hi' : Int} (hr : ∀ s : Nat, s < 4 → (s : Int) ≠ bad → lo ≤ x.rd s a ∧ x.rd s a ≤ hi') : lo ≤ (frN x c i).us a ∧ (frN x c i).us a ≤ hi' := by
 have gi' : (i : Int) ≠ x.bad := by rw [hb]; exact gi
 rw [fr_good h hb hE hi gi, n5_us hE hi gi', us_at hE hi gi']
 refine mid_good (bad := bad) fun s hs gs => ?_
 rw [ag_good hE hi hs gi' (by rw [hb]; exact gs) ha]
 exact ⟨(h.on i s hi hs gi gs).1, hr s hs gs⟩
theorem ax_follow (h : Inv t bad c) (hb : x.bad = bad) (hE : frE x c = 0) {i a : Nat} (hi : i < 4) (gi : (i : Int) ≠ bad) : (frN x c i).ax a = stepS ((c.nd i).ax a) t ((frN x c i).us a) := by
 have gi' : (i : Int) ≠ x.bad := by rw [hb]; exact gi
 rw [fr_good h hb hE hi gi, n5_ax hE hi gi', n5_us hE hi gi', ax_at hE hi gi', h.tn i hi]
end
theorem rn_at {A : Nat → Bool} {r : Rl} {b : Nat} : ∀ k, b < k → (rnN A r k).1.I b = (stN A b (rnN A r b).1).I b ∧ (rnN A r k).1.M b = (stN A b (rnN A r b).1).M b ∧ (rnN A r k).1.J b = (stN A b (rnN A r b).1).J b
 | 0, h => by omega
 | k + 1, h => by
  by_cases e : b = k
  ·subst e; exact ⟨rfl, rfl, rfl⟩
  ·obtain ⟨h1, h2, h3⟩ := rn_at (A := A) (r := r) (b := b) k (by omega)
   obtain ⟨g1, g2, g3⟩ := st_other (A := A) (i := k) (r := (rnN A r k).1) (j := b) e
   exact ⟨g1.trans h1, g2.trans h2, g3.trans h3⟩
theorem rn_dis {A : Nat → Bool} {r : Rl} {b : Nat} (hb : b < 4) (hA : ∀ s, s < 4 → s ≠ b → A s = true ∧ r.I s = true ∧ r.M s = 0) (h0 : A b = false) :
  (r.I b = false → (rnN A r 4).1.I b = false) ∧ (r.I b = true → r.M b = 0 → (rnN A r 4).1.I b = true ∧ (rnN A r 4).1.M b = 1) ∧ (r.I b = true → r.M b = 1 → (rnN A r 4).1.I b = false) := by
 obtain ⟨e1, e2, _⟩ := rn_at (A := A) (r := r) 4 hb
 obtain ⟨f1, f2, _⟩ := rn_rest (A := A) (r := r) b (Nat.le_refl b)
 have hc : r.I b = true → cn (rnN A r b).1.I 4 = 4 := fun hI => cn_all fun s hs => by
  by_cases e : s = b
  ·rw [e, f1]; exact hI
  ·exact (rn_stays (hA s hs e).2.1 (hA s hs e).2.2 (hA s hs e).1 b).1
 refine ⟨fun hI => ?_, fun hI hM => ?_, fun hI hM => ?_⟩
 ·rw [e1, (st_off (by rw [f1]; exact hI) h0).1]; exact f1.trans hI
 ·have := hc hI
  rw [e1, e2, (st_miss (by rw [f1]; exact hI) h0 (by rw [f2, hM]; omega)).1]
  refine ⟨f1.trans hI, ?_⟩
  show upM _ _ _ _ = _
  rw [upM_same, f2, hM]; rfl
 ·have := hc hI
  rw [e1, (st_out (by rw [f1]; exact hI) h0 (by rw [f2, hM]; omega)).1]
  exact upM_same _ _ _
section
variable {x : Ip} {c : Cl}
theorem vt_silent (hE : frE x c = 0) {i b : Nat} (hl : x.ly = []) (hb : x.bad = (b : Int)) (h4 : b < 4) (hi : i < 4) (gi : (i : Int) ≠ x.bad) : vtK x c i b = 0 := by
 rw [vt_tk hE hi gi]
 refine tkH_good (bad := x.bad) (td_good hE) hi h4 gi (fun j hj gj => ?_)
 have hn : b ≠ j := by omega
 rw [pas_at hE hj gj]
 show pasH (ndK x c 3 j) (bxK x c 3 j) b = 0
 unfold pasH
 rw [bxK_succ, frst_bx (fun k hk gk => by rw [ms2 hE hk gk]) hn 4 (Nat.le_refl _), if_pos h4, if_pos hb.symm, hl]
 show (ndK x c 3 j).he b = 0
 rw [dec_at hE hj gj]
 show (if (b : Int) = (ndK x c 2 j).id then _ else (ndK x c 2 j).he b) = 0
 rw [if_neg (by rw [id2 hE hj gj]; omega), rel_atC hE hj gj, sen_at hE hj gj]
end
section
variable {n : Nd} {l m : List Ms}
end
end Go.Proofs.YtdhblehhgpdpdacGreat
namespace Go.Proofs.YtdhblehhgpdpdacGreat
open Go.RowKit
structure Al (t : Tn) (b : Nat) (q : Nat) (c : Cl) : Prop where
 id : ∀ i, i < 4 → (c.nd i).id = (i : Nat)
 tn : ∀ i, i < 4 → (c.nd i).tn = t
 ax : ∀ i k : Nat, i < 4 → k < 4 → ∀ a, a < 3 → (c.nd i).ax a = (c.nd k).ax a
 rl : ∀ i k : Nat, i < 4 → k < 4 → RlE (c.nd i).rl (c.nd k).rl
 gd : ∀ i : Nat, i < 4 → gdA (c.nd i).rl = true
 on : ∀ i s : Nat, i < 4 → s < 4 → s ≠ b → (c.nd i).rl.I s = true ∧ (c.nd i).rl.M s = 0
 jn : ∀ i, i < 4 → ((c.nd i).rl.I b = true) ∨ (q : Int) ≤ (c.nd i).rl.J b
section
variable {t : Tn} {b : Nat} {x : Ip} {c : Cl}
end
end Go.Proofs.YtdhblehhgpdpdacGreat
namespace Go.Proofs.YtdhblehhgpdpdacGreat
open Go.RowKit
def listI {α : Type} (f : α → It) (L : List α) : It := ⟨fun w => ∀ x, x ∈ L → (f x).p w, fun k => ∃ x, x ∈ L ∧ (f x).foot k, fun h e x hx => (f x).ok (h x hx) (fun k h1 h2 => e k h1 ⟨x, hx, h2⟩), fun h ⟨x, hx, e⟩ => (f x).lt (h x hx) e⟩
theorem list_push {α : Type} {f : α → It} {L : List α} {y : α} {w0 w : World} {l : List It} (H : Cx w0 w (f y :: listI f L :: l)) : Cx w0 w (listI f (L ++ [y]) :: l) := by
 refine H.merge.wk (fun h x hx => ?_) (fun k ⟨x, hx, hk⟩ => ?_)
 ·rcases List.mem_append.1 hx with hx | hx
  ·exact h.2 x hx
  ·simp only [List.mem_cons, List.not_mem_nil, or_false] at hx
   rw [hx]; exact h.1
 ·rcases List.mem_append.1 hx with hx | hx
  ·exact Or.inr ⟨x, hx, hk⟩
  ·simp only [List.mem_cons, List.not_mem_nil, or_false] at hx
   rw [hx] at hk; exact Or.inl hk
theorem Cx.plus {w0 w w' : World} {l m : List It} (H : Cx w0 w l) (G : Cx w w' m) : Cx w0 w' (m ++ l) := by
 have H' := H.call G.bel
 have hs := H.size
 refine ⟨H'.bel, fun x hx => ?_, fun x hx k hk => ?_, List.pairwise_append.2 ⟨G.dis, H.dis, fun x hx y hy k h1 h2 => ?_⟩⟩
 ·rcases List.mem_append.1 hx with hx | hx
  ·exact G.it x hx
  ·exact H'.it x hx
 ·rcases List.mem_append.1 hx with hx | hx
  ·have := G.up x hx k hk; omega
  ·exact H.up x hx k hk
 ·have h3 := G.up x hx k h1
  have h4 := y.lt (H.it y hy) h2
  omega
theorem ownI_base {w0 w : World} {B C : Nat} {t : TypeId} {s : Nat} {v : Value} {n : Nat} {xs : List Value} {l : List It} (H : Cx w0 w (ownI B t s v n xs :: l)) (h : C ≤ B) : Cx w0 w (ownI C t s v n xs :: l) := H.wk (fun h1 => rw_base h1 h) (fun _ h => h)
theorem agI_base {w0 w : World} {B C : Nat} {D : Nat → Nd × Ad} {l : List It} (H : Cx w0 w (agI B D :: l)) (h : C ≤ B) : Cx w0 w (agI C D :: l) := H.wk (fun h1 i hi => rw_base (h1 i hi) h) (fun _ h => h)
def cK (t : Tn) (L : List Li) : Nat → Cl
 | 0 => begC t
 | k + 1 => match L[k]? with | some c => frC c.x (cK t L k) | none => cK t L k
theorem cK_succ {t : Tn} {L : List Li} {k : Nat} {c : Li} (h : L[k]? = some c) : cK t L (k + 1) = frC c.x (cK t L k) := by
 show (match L[k]? with | some c => frC c.x (cK t L k) | none => cK t L k) = _
 rw [h]
theorem cloN_id (n : Nd) (l : List Ms) : (cloN n l).id = n.id := by
 unfold cloN
 split
 ·rfl
 ·split
  ·split <;> rfl
  ·rfl
theorem frN_id {x : Ip} {c : Cl} (hE : frE x c = 0) {i : Nat} (hi : i < 4) : (frN x c i).id = (i : Nat) := by
 unfold frN
 split
 ·exact id0 hE hi
 ·rw [cloN_id]; exact wk_id hE (Nat.le_refl _) hi
theorem frE_zero {x : Ip} {c : Cl} (h1 : -1 ≤ x.bad ∧ x.bad < 4) (h2 : 0 ≤ c.fr ∧ c.fr ≤ 1073741823) (h3 : x.ly.length ≤ 400) (h4 : ∀ i, i < 4 → (c.nd i).id = (i : Nat)) : frE x c = 0 := by
 unfold frE
 rw [if_neg (by omega), if_neg (by omega), if_pos ⟨h4 0 (by omega), h4 1 (by omega), h4 2 (by omega), h4 3 (by omega)⟩]
def InOK (L : List Li) : Prop := L.length ≤ 1000 ∧ ∀ c, c ∈ L → (-1 ≤ c.bad ∧ c.bad < 4) ∧ c.LL.length ≤ 400
theorem cK_ok {t : Tn} {L : List Li} (h : InOK L) : ∀ k, k ≤ L.length → (cK t L k).fr = (k : Nat) ∧ (∀ i, i < 4 → ((cK t L k).nd i).id = (i : Nat)) ∧ (∀ c, L[k]? = some c → frE c.x (cK t L k) = 0)
 | 0, _ => by
  have h2 : ∀ i, i < 4 → ((cK t L 0).nd i).id = (i : Nat) := fun i hi => (begC_inv t (-1)).id i hi
  refine ⟨rfl, h2, fun c hc => ?_⟩
  obtain ⟨h3, h4⟩ := h.2 c (List.mem_of_getElem? hc)
  exact frE_zero h3 ⟨Int.le_refl _, (show (0 : Int) ≤ 1073741823 by decide)⟩ (by show (c.LL.map Lj.y).length ≤ 400; rw [List.length_map]; exact h4) h2
 | k + 1, hk => by
  obtain ⟨g1, g2, g3⟩ := cK_ok h k (by omega)
  have hc := List.getElem?_eq_getElem (show k < L.length by omega)
  have hE := g3 _ hc
  have e : cK t L (k + 1) = ⟨(cK t L k).fr + 1, frN (L[k]).x (cK t L k)⟩ := by rw [cK_succ hc]; unfold frC; rw [if_pos hE]
  have e1 : (cK t L (k + 1)).fr = ((k + 1 : Nat) : Int) := by rw [e]; show (cK t L k).fr + 1 = _; rw [g1]; omega
  have e2 : ∀ i, i < 4 → ((cK t L (k + 1)).nd i).id = (i : Nat) := fun i hi => by rw [e]; exact frN_id hE hi
  refine ⟨e1, e2, fun c hc => ?_⟩
  obtain ⟨h3, h4⟩ := h.2 c (List.mem_of_getElem? hc)
  have := h.1
  exact frE_zero h3 (by rw [e1]; omega) (by show (c.LL.map Lj.y).length ≤ 400; rw [List.length_map]; exact h4) e2
theorem cK_cls {t : Tn} {L : List Li} (ht : t.Ok) (hL : ∀ c, c ∈ L → IpOK c.x) : ∀ k, ClsOK (cK t L k)
 | 0 => begC_ok ht
 | k + 1 => by
  show ClsOK (match L[k]? with | some c => frC c.x (cK t L k) | none => cK t L k)
  split
  ·rename_i c hc
   exact frC_ok (hL c (List.mem_of_getElem? hc)) (cK_cls ht hL k)
  ·exact cK_cls ht hL k
def clH (d : Int × (Nat → Nd × Ad)) : Nat → Value := clG d.1 d.2
def rsH (d : List Nd × Ad) (_ : Nat) : Value := slV d.2 d.1.length
def rsJ (B : Nat) (d : List Nd × Ad) : It := ownI B 61 14 (slV d.2 d.1.length) d.1.length (rwS rpF 14 d.1)
theorem frC_congr {x : Ip} {fr : Int} {D : Nat → Nd × Ad} {c : Cl} (hf : c.fr = fr) (hn : ∀ i, i < 4 → (D i).1 = c.nd i) : frE x ⟨fr, fun i => (D i).1⟩ = frE x c ∧ (frC x ⟨fr, fun i => (D i).1⟩).fr = (frC x c).fr ∧ (∀ i, i < 4 → (frC x ⟨fr, fun i => (D i).1⟩).nd i = (frC x c).nd i) ∧ frR x ⟨fr, fun i => (D i).1⟩ = frR x c := by
 have hk : ∀ k, ∀ i, i < 4 → (wkK x ⟨fr, fun i => (D i).1⟩ k).nd i = (wkK x c k).nd i ∧ (wkK x ⟨fr, fun i => (D i).1⟩ k).bx i = (wkK x c k).bx i := by
  intro k
  induction k with
  | zero => exact fun i hi => ⟨hn i hi, rfl⟩
  | succ k ih =>
   intro i hi
   obtain ⟨h1, h2⟩ := ih i hi
   refine ⟨?_, ?_⟩
   ·show wkN x fr _ k i = wkN x c.fr _ k i
    rw [hf]
    exact (wkN_of h1 h2).1
   ·show bxM x _ i k 4 = bxM x _ i k 4
    refine bxM_congr fun j hj => ?_
    obtain ⟨h3, h4⟩ := ih j hj
    show wkM x fr _ k j = wkM x c.fr _ k j
    rw [hf]
    exact (wkN_of h3 h4).2
 have hN : ∀ i, i < 4 → frN x ⟨fr, fun i => (D i).1⟩ i = frN x c i := fun i hi => by
  unfold frN
  rw [(hk 5 i hi).1, (hk 5 i hi).2]
  show (if _ then (D i).1 else _) = _
  rw [hn i hi]
 have hE : frE x ⟨fr, fun i => (D i).1⟩ = frE x c := by
  unfold frE
  dsimp only
  simp only [hf, hn 0 (by omega), hn 1 (by omega), hn 2 (by omega), hn 3 (by omega)]
 refine ⟨hE, ?_, fun i hi => ?_, ?_⟩
 ·unfold frC
  rw [hE]
  split
  ·show fr + 1 = c.fr + 1; rw [hf]
  ·rfl
 ·unfold frC
  rw [hE]
  split
  ·exact hN i hi
  ·rfl
 ·unfold frR
  rw [hE]
  split
  ·refine List.map_congr_left fun i hi => hN i ?_
   unfold gdL at hi
   exact List.mem_range.1 (List.mem_filter.1 hi).1
  ·rfl
theorem res_t3 {P : Program} {a : Act} {w : World} {fn : Func} {p p' p2 : Nat} {u v z : Value} (h : fn.results = #[.tmp p, .tmp p', .tmp p2]) (hv : a.eval (.tmp p) = u) (hv' : a.eval (.tmp p') = v) (hv2 : a.eval (.tmp p2) = z) : (results fn a.tmps).run P w = .ok (.tuple #[u, v, z]) w := by
 have e := getD_ev hv; have e2 := getD_ev hv'; have e3 := getD_ev hv2
 simp only [Array.getD_eq_getD_getElem?] at e e2 e3
 simp [results, h, e, e2, e3]
theorem wp_one1 {P : Program} {Q : Exit → Act → World → Prop} {o : Oper} {a : Act} {K : Act → World → Prop} {w : World} {s e : TypeId} {x : Operand} {v z : Value} (hu : P.underlying s = some (.slice e)) (T : OneC P e) (hz : ∀ w, (zeroValue e).run P w = .ok z w) (h1 : z.cells = #[z]) (h2 : v.cells = #[v]) (ho : o.op = .buildSlice s 1 #[(0, x)]) (hx : a.eval x = v)
  (h : ∀ w', Vh e w' w.heap.size 1 1 (fun _ => v) → Below w.heap.size w w' → w'.heap.size = w.heap.size + 1 → K (a.put o.dst (.slice (some ⟨w.heap.size, 0, none⟩) 1 1)) w') : WpI P o a w K Q := by
 refine ⟨?_⟩
 have hh := h (w.alloc (.cells #[v] e)) (Vh.of_row (fun _ => v) 1 (by decide) (by show (w.heap.push _)[w.heap.size]? = _; rw [Array.getElem?_push_size]; rfl)) (al_below _ _) (al_size _ _)
 unfold Oper.wp execOp
 simp only [ho, List.map_toArray, List.map_cons, List.map_nil, hx, Instr.buildSlice, Sem.run_bind, run_underlying hu, Result.andThen_ok, T.size, Nat.one_mul, gt_iff_lt]
 rw [if_neg (by decide), if_neg (by decide)]
 simp only [Sem.run_bind, hz, Result.andThen_ok, Sem.run_pure, h1]
 have hf : ∀ ds : Array Value, ds.size = 1 → Instr.fill (fun i => some (i * 1, 1)) ds [(0, v)] = some #[v] := fun ds hds => by
  match ds, hds with
  | ⟨[d]⟩, _ => simp [Instr.fill, h2]
 rw [hf _ (by simp)]
 simp only [newRow, newObj]
 go_simp
 exact hh
set_option maxHeartbeats 2000000 in
theorem behind_any (t : Tn) (mo : Option Addr) (mc : Nat) (L : List Li) (w : World) (ht : t.Ok) (hr : RdS inpF 14 w mo L) (hok : ∀ c, c ∈ L → LiOK w c) (hin : InOK L) :
  Calls Tryz.prog 11 #[agV (ntnF t) 0 4, .slice mo L.length mc] w fun e w' => ∃ (v1 v2 : Value) (CL : List (Int × (Nat → Nd × Ad))) (RL : List (List Nd × Ad)), e = .returned (.tuple #[v1, v2, .bool true]) ∧ CL.length = L.length ∧ RL.length = L.length ∧ (∀ k d, CL[k]? = some d → d.1 = ((k + 1 : Nat) : Int) ∧ ∀ i, i < 4 → (d.2 i).1 = (cK t L (k + 1)).nd i) ∧ (∀ k d c, RL[k]? = some d → L[k]? = some c → d.1 = frR c.x (cK t L k)) ∧
   Cx w w' [ownI w.heap.size 58 297 v1 CL.length (rwS clH 297 CL), listI (fun d : Int × (Nat → Nd × Ad) => agI w.heap.size d.2) CL, ownI w.heap.size 59 1 v2 RL.length (rwS rsH 1 RL), listI (rsJ w.heap.size) RL] := by
 refine enterF Tryz.func11 rfl 52 rfl (of_decide_eq_true rfl) (fun A hs hd hb => ?_)
 have b0 : A.eval (.tmp 0) = agV (ntnF t) 0 4 := hb 0 _ rfl
 have b1 : A.eval (.tmp 1) = .slice mo L.length mc := hb 1 _ rfl
 clear hb
 have hL1 := hin.1
 have H := Cx.start w
 refine c_rs (m_start ?_)
 refine q_box H ?_
 intro w1 H z1
 repeat first | refine qa ?_ | refine l_nx ?_ | refine c_rs ?_
 have hsz := H.size
 refine q_c1 (clBegin_ok t w1 ht) ?_
 rintro e w2 ⟨D0, rfl, hD0, G⟩
 refine ⟨_, rfl, ?_⟩
 replace H := agI_base (H.plus G) hsz
 refine q_al H ?_
 intro w3 H z3
 refine q_sp0 H stP_whole (clG_one _ _) ?_
 intro w4 H z4
 repeat first | refine qa ?_ | refine l_nx ?_ | refine c_rs ?_ | refine c_nx ?_
 refine c_block ?_
 refine c_loop (fun r A W => ∃ (k : Nat) (D : Nat → Nd × Ad) (v1 v2 : Value) (CL CA : List (Int × (Nat → Nd × Ad))) (RL : List (List Nd × Ad)), k ≤ L.length ∧ L.length - k ≤ r ∧ A.tmps.size = 52 ∧ A.defers = [] ∧ A.eval (.tmp 1) = .slice mo L.length mc ∧ A.eval (.tmp 7) = .pointer (some ⟨w2.heap.size, 0, none⟩) ∧ A.eval (.tmp 8) = v1 ∧ A.eval (.tmp 9) = v2 ∧ A.eval (.tmp 10) = .int .i64 (k : Int) ∧
   CL.length = k ∧ RL.length = k ∧ (∀ i, i < 4 → (D i).1 = (cK t L k).nd i) ∧ (∃ q, (q, D) ∈ CA) ∧ (∀ d, d ∈ CL → d ∈ CA) ∧ (∀ j d, CL[j]? = some d → d.1 = ((j + 1 : Nat) : Int) ∧ ∀ i, i < 4 → (d.2 i).1 = (cK t L (j + 1)).nd i) ∧ (∀ j d c, RL[j]? = some d → L[j]? = some c → d.1 = frR c.x (cK t L j)) ∧
   Cx w W [vhI 58 w2.heap.size 297 297 (clG (k : Int) D), listI (fun d : Int × (Nat → Nd × Ad) => agI w.heap.size d.2) CA, ownI w.heap.size 58 297 v1 CL.length (rwS clH 297 CL), ownI w.heap.size 59 1 v2 RL.length (rwS rsH 1 RL), listI (rsJ w.heap.size) RL]) L.length
  ⟨0, D0, _, _, [], [(0, D0)], [], Nat.zero_le _, by omega, (szL _ _).trans hs, (defL _ _).trans hd, Qv, Qv, Qv, Qv, Qv, rfl, rfl, hD0, ⟨0, List.mem_cons_self⟩, fun _ h => (by cases h), fun j d h => (by simp at h), fun j d c h => (by simp at h), ?_⟩ (fun r B W hI => ?_)
 ·have H1 : Cx w w4 [vhI 58 w2.heap.size 297 297 (clG ((0 : Nat) : Int) D0), listI (fun d : Int × (Nat → Nd × Ad) => agI w.heap.size d.2) [(0, D0)]] := (H.f2.tl.f1.wk (y := listI (fun d : Int × (Nat → Nd × Ad) => agI w.heap.size d.2) [(0, D0)]) (fun h x hx => by simp only [List.mem_cons, List.not_mem_nil, or_false] at hx; rw [hx]; exact h) (fun k ⟨x, hx, hk⟩ => by simp only [List.mem_cons, List.not_mem_nil, or_false] at hx; rw [hx] at hk; exact hk)).f1
  have H2 := ((H1.add (Below.refl _ _) (listI (rsJ w.heap.size) []) (fun x hx => by cases hx) (fun j ⟨x, hx, _⟩ => by cases hx)).add (Below.refl _ _) (ownI w.heap.size 59 1 (.slice none 0 0) 0 []) (World.ownsRow_nil _ _ _ _) (fun j e => nomatch e)).add (Below.refl _ _) (ownI w.heap.size 58 297 (.slice none 0 0) 0 []) (World.ownsRow_nil _ _ _ _) (fun j e => nomatch e)
  exact H2.f4.f4
 clear b0 b1 hs hd H
 obtain ⟨k, D, v1, v2, CL, CA, RL, hk, hrr, hs, hd, b1, b7, b8, b9, b10, hCl, hRl, hD, ⟨q, hq⟩, hCA, hC, hR, H⟩ := hI
 refine c_nx ?_
 refine c_rs (m_start ?_)
 repeat first | refine qa ?_ | refine l_nx ?_
 refine q_if (fun h => ?_) (fun h => ?_)
 ·have hkn : k < L.length := by have := of_decide_eq_true h; omega
  have hc := List.getElem?_eq_getElem hkn
  obtain ⟨cc, ec⟩ : ∃ cc, cc = L[k] := ⟨_, rfl⟩
  rw [← ec] at hc
  have hcc := hok cc (by rw [ec]; exact List.getElem_mem hkn)
  obtain ⟨pb, po, rfl, hcell⟩ := hr (by omega)
  have hcell := hcell k cc hc
  obtain ⟨o1, o2, o3⟩ := cK_ok (t := t) hin k hk
  have hE := o3 cc hc
  obtain ⟨p1, p2, p3, p4⟩ := frC_congr (x := cc.x) o1 hD
  refine c_fin ?_
  refine c_nx (c_block ?_)
  refine c_nx ?_
  replace H := H.drew
  have hag : ∀ i, i < 4 → AgRd W.drew (D i).1 (D i).2.1 (D i).2.2 := fun i hi => by
   have ho : World.ownsRow _ _ _ _ _ _ _ := H.o1 (q, D) hq i hi
   obtain ⟨a3, c3, e, hs3, _⟩ := owns_sr ho
   cases e
   exact hs3
  have hcls : ClsOK ⟨(k : Int), fun i => (D i).1⟩ := by
   have := cK_cls (L := L) ht (fun c hc => (hok c hc).ip) k
   exact ⟨by have := this.1; rw [o1] at this; exact this, fun i hi => by show NdOK (D i).1; rw [hD i hi]; exact this.2 i hi⟩
  have eN : ∀ i, i < 4 → (frC cc.x ⟨(k : Int), fun i => (D i).1⟩).nd i = (cK t L (k + 1)).nd i := fun i hi => by rw [p3 i hi, cK_succ hc]
  have eF : (frC cc.x ⟨(k : Int), fun i => (D i).1⟩).fr = ((k + 1 : Nat) : Int) := by
   rw [p2, ← cK_succ hc]
   exact (cK_ok hin (k + 1) (by omega)).1
  have hcW : ∀ j, j < 14 → W.drew.cell? ⟨pb, po + k * 14 + j, none⟩ = some (inpF cc j) := fun j hj => at_below (hcell j hj) H.bel
  have hS : (fun W' => Its [vhI 58 w2.heap.size 297 297 (clG (k : Int) D)] W' ∧ ∀ j, j < 14 → W'.cell? ⟨pb, po + k * 14 + j, none⟩ = some (inpF cc j)) W.drew := ⟨Its.cons H.o0 (Its.nil _), hcW⟩
  refine c_rj (S := fun W' => Its [vhI 58 w2.heap.size 297 297 (clG (k : Int) D)] W' ∧ ∀ j, j < 14 → W'.cell? ⟨pb, po + k * 14 + j, none⟩ = some (inpF cc j)) (.rd 0 (.mv 1 (.mv 2 (.mv 3 (.rd 4 (.two 5 10 (.mv 6 (.mv 7 (.mv 8 (.mv 9 (.go 10 (.go 11 (.mv 12 (.mv 13 .fin)))))))) (.go 5 (.mv 6 (.mv 7 (.mv 8 (.mv 9 (.go 11 (.mv 12 (.mv 13 .fin)))))))))))))) [11] (by kernel_rfl) (by kernel_rfl) ?_
  refine Yr rfl hS (fun _ H => run_loadP _ _ rfl ManyK.out Qv H.1.v0 (by omega)) ?_
  iterate 2 refine qj ?_
  refine j_mv rfl rfl (fun _ _ _ h => h) (wanted_rd rfl) (fun w => run_ixSC _ _ _ _ rfl SlcK.out SizK.out Qv Qv rfl hkn w) ?_
  refine Yr rfl hS (fun _ H => run_lodCs (g := inpF cc) ManyK.out H.2 rfl Qv) ?_
  refine sJ_cut (r := .go 11 (.mv 12 (.mv 13 .fin))) (fun A W' => ∃ (qb : Nat) (D' : Nat → Nd × Ad) (vr : Value), A.tmps.size = 52 ∧ A.defers = [] ∧ A.eval (.tmp 1) = .slice (some ⟨pb, po, none⟩) L.length mc ∧ A.eval (.tmp 7) = .pointer (some ⟨w2.heap.size, 0, none⟩) ∧ A.eval (.tmp 8) = v1 ∧ A.eval (.tmp 9) = v2 ∧ A.eval (.tmp 10) = .int .i64 (k : Int) ∧ A.eval (.tmp 11) = .pointer (some ⟨qb, 0, none⟩) ∧ A.eval (.tmp 29) = agV (clG ((k + 1 : Nat) : Int) D') 0 297 ∧ A.eval (.tmp 30) = vr ∧ A.eval (.tmp 31) = .int .i64 0 ∧ (∀ i, i < 4 → (D' i).1 = (cK t L (k + 1)).nd i) ∧ Cx w W' [vhI 58 qb 297 297 (clF 0 (fun _ => zeroN) (fun _ => slV (none, 0) 0)), ownI w.heap.size 61 14 vr (frR cc.x (cK t L k)).length (rwS rpF 14 (frR cc.x (cK t L k))), agI w.heap.size D', vhI 58 w2.heap.size 297 297 (clG (k : Int) D), listI (fun d : Int × (Nat → Nd × Ad) => agI w.heap.size d.2) CA, ownI w.heap.size 58 297 v1 CL.length (rwS clH 297 CL), ownI w.heap.size 59 1 v2 RL.length (rwS rsH 1 RL), listI (rsJ w.heap.size) RL]) (fun A W' hT => ?_) (fun hcut => ?_)
  ·clear b1 b7 b8 b9 b10 hs hd H hS hcW hag
   obtain ⟨qb, D', vr, hs, hd, b1, b7, b8, b9, b10, b11, b29, b30, b31, hD', H⟩ := hT
   refine j_start ?_
   refine j_st rfl (wanted_rd rfl) (fun K hK => ?_)
   refine wp_storeP _ _ _ _ rfl ManyK.out Qv Qv H.v0 (by omega) (clG_one _ _) rfl ?_
   intro w6 m6 k6 z6
   replace H := H.s0 k6 (m6.congr stP_whole)
   refine hK _ (fun h => absurd h (by decide)) ?_
   clear hK K
   iterate 2 refine qj ?_
   refine j_nx ?_
   refine c_nx ?_
   refine c_rs ?_
   refine qa ?_
   refine qg (run_neqE (b := false) _ _ rfl Qv Qv rfl _) ?_
   iterate 5 refine qa ?_
   refine qg (run_neqI (b := false) _ _ rfl Qv Qv (decide_eq_false (fun e => e (by show ((k + 1 : Nat) : Int) = (k : Int) + 1; omega))) _) ?_
   refine qg (run_pickF _ _ _ rfl Qv Qv _) ?_
   refine l_nx ?_
   refine q_no rfl (c_fin ?_)
   refine c_rs ?_
   refine qa ?_
   refine q_sp3 H stP_whole (clG_one _ _) ?_
   intro w7 H z7
   refine l_nx ?_
   refine c_region ?_
   iterate 2 refine qa ?_
   refine m_do rfl (wanted_rd rfl) (fun K hK => ?_)
   refine wp_oneG SlcK.out ManyK.out ZerK.out (by decide) (by decide) rfl Qv ?_
   intro w8 m8 k8 z8
   have hsz := H.size
   replace H := H.call k8
   refine hK _ _ ?_
   clear hK K
   refine q_ap5 (bytes := 2344) H (rdc_own (rwS_own1 (B := w.heap.size) (F := clH) (x := (((k + 1 : Nat) : Int), D')) m8 (by omega))) (rwS_one (fun x _ => clG_one _ _)) (by unfold maxLen; omega) (by omega) ?_
   intro v1' w9 H
   iterate 2 refine qa ?_
   refine m_do rfl (wanted_rd rfl) (fun K hK => ?_)
   have hvr : World.ownsRow _ _ _ _ _ _ _ := H.o1
   obtain ⟨ra, rc, rfl, hrc⟩ := rw_slice hvr
   refine wp_one1 (v := .slice ra (frR cc.x (cK t L k)).length rc) SlcK.out OneK.out Zer1.out rfl rfl rfl Qv ?_
   intro w10 m10 k10 z10
   have hsz := H.size
   replace H := H.call k10
   refine hK _ _ ?_
   clear hK K
   refine q_ap0 (bytes := 24) H.f6 (rdc_own (rwS_own1 (B := w.heap.size) (F := rsH) (x := (frR cc.x (cK t L k), (ra, rc))) m10 (by omega))) (rwS_one (fun x _ _ _ => rfl)) (by unfold maxLen; omega) (by omega) ?_
   intro v2' w11 H
   iterate 2 refine qa ?_
   refine l_finB ?_
   refine c_region ?_
   repeat refine qa ?_
   have H2 := list_push (f := rsJ w.heap.size) (y := (frR cc.x (cK t L k), (ra, rc))) H.f7.f3
   have H3 := list_push (f := fun d : Int × (Nat → Nd × Ad) => agI w.heap.size d.2) (y := (((k + 1 : Nat) : Int), D')) H2.f5.f4
   refine l_round ⟨L.length - (k + 1), by omega, k + 1, D', _, _, CL ++ [(((k + 1 : Nat) : Int), D')], CA ++ [(((k + 1 : Nat) : Int), D')], RL ++ [(frR cc.x (cK t L k), (ra, rc))], by omega, by omega, (szL _ _).trans hs, (defL _ _).trans hd, Qv, Qv, Qv, Qv, Eq.trans Qv (by rw [Int.natCast_add]; rfl), by rw [List.length_append, hCl]; rfl, by rw [List.length_append, hRl]; rfl, hD', ⟨_, List.mem_append_right _ List.mem_cons_self⟩, fun d hd2 => ?_, fun j d hj => ?_, fun j d c hj hjc => ?_, ?_⟩
   ·rcases List.mem_append.1 hd2 with h | h
    ·exact List.mem_append_left _ (hCA d h)
    ·exact List.mem_append_right _ h
   ·by_cases e : j < CL.length
    ·rw [List.getElem?_append_left e] at hj
     exact hC j d hj
    ·have hjl := (List.getElem?_eq_some_iff.1 hj).1
     rw [List.length_append] at hjl
     have hjk : j = k := by simp only [List.length_cons, List.length_nil] at hjl; omega
     rw [List.getElem?_append_right (by omega), show j - CL.length = 0 by omega] at hj
     have hj : (((k + 1 : Nat) : Int), D') = d := by simpa using hj
     rw [← hj, hjk]
     exact ⟨rfl, hD'⟩
   ·by_cases e : j < RL.length
    ·rw [List.getElem?_append_left e] at hj
     exact hR j d c hj hjc
    ·have hjl := (List.getElem?_eq_some_iff.1 hj).1
     rw [List.length_append] at hjl
     have hjk : j = k := by simp only [List.length_cons, List.length_nil] at hjl; omega
     rw [List.getElem?_append_right (by omega), show j - RL.length = 0 by omega] at hj
     have hj : (frR cc.x (cK t L k), (ra, rc)) = d := by simpa using hj
     rw [hjk, hc] at hjc
     cases hjc
     rw [← hj, hjk]
   ·rw [List.length_append, List.length_append, rwS_app, rwS_app]
    exact H3.f3.tl.f3.f4.b2.f4.b3
  ·refine j_two ?_ ?_
   ·refine j_do rfl rfl (wanted_rd rfl) (fun K hK => ?_)
    have hsz := H.size
    refine wp_call2 _ 21 _ _ _ rfl Qv Qv (EntK.out _ _) (frame_ok cc.x (k : Int) D cc.lo cc.lc cc.LL _ rfl hcc.ip hcls hag (hcc.jr.below H.bel)) ?_
    rintro e w5 ⟨D', vr, rfl, hD', G⟩
    rw [p4] at G
    replace H := H.plus G
    refine ⟨_, rfl, hK _ _ (fun _ h => ⟨Its.cons H.o2 (Its.nil _), fun j hj => at_below (h.2 j hj) G.bel⟩) ?_⟩
    clear hK K
    refine qj ?_
    refine j_mv rfl rfl (fun _ _ _ h => h) (wanted_rd rfl) (fun w => run_ext3A _ rfl Qv w) ?_
    refine j_mv rfl rfl (fun _ _ _ h => h) (wanted_rd rfl) (fun w => run_ext3B _ rfl Qv w) ?_
    refine j_mv rfl rfl (fun _ _ _ h => h) (wanted_rd rfl) (fun w => run_ext3C _ rfl Qv w) ?_
    refine j_do rfl rfl (wanted_rd rfl) (fun K hK => ?_)
    refine wp_allocG _ _ rfl ZerK.out (of_decide_eq_true rfl) ?_
    intro w6 m6 k6 z6
    replace H := H.add k6 (vhI _ _ _ _ _) m6 (fun j e => Nat.le_of_eq e.symm)
    refine hK _ _ (fun _ h => ⟨Its.cons H.o3 (Its.nil _), fun j hj => at_below (h.2 j hj) k6⟩) ?_
    clear hK K
    refine hcut _ _ ⟨_, D', vr, (szL _ _).trans hs, (defL _ _).trans hd, Qv, Qv, Qv, Qv, Qv, Qv, Eq.trans Qv (by rw [eF]), Qv, Eq.trans Qv (by rw [p1, hE]), fun i hi => (hD' i hi).trans (eN i hi), ?_⟩
    exact (agI_base (ownI_base H.f1 hsz).f2 hsz).b2.b1
   ·refine j_do rfl rfl (wanted_rd rfl) (fun K hK => ?_)
    refine wp_allocG _ _ rfl ZerK.out (of_decide_eq_true rfl) ?_
    intro w6 m6 k6 z6
    replace H := H.add k6 (vhI _ _ _ _ _) m6 (fun j e => Nat.le_of_eq e.symm)
    refine hK _ _ (fun _ h => ⟨Its.cons H.o1 (Its.nil _), fun j hj => at_below (h.2 j hj) k6⟩) ?_
    clear hK K
    refine j_do rfl rfl (wanted_rd rfl) (fun K hK => ?_)
    have hsz := H.size
    refine wp_call2 _ 21 _ _ _ rfl Qv Qv (EntK.out _ _) (frame_ok cc.x (k : Int) D cc.lo cc.lc cc.LL _ rfl hcc.ip hcls (fun i hi => (hag i hi).below k6) (hcc.jr.below H.bel)) ?_
    rintro e w5 ⟨D', vr, rfl, hD', G⟩
    rw [p4] at G
    replace H := H.plus G
    refine ⟨_, rfl, hK _ _ (fun _ h => ⟨Its.cons H.o3 (Its.nil _), fun j hj => at_below (h.2 j hj) G.bel⟩) ?_⟩
    clear hK K
    refine qj ?_
    refine j_mv rfl rfl (fun _ _ _ h => h) (wanted_rd rfl) (fun w => run_ext3A _ rfl Qv w) ?_
    refine j_mv rfl rfl (fun _ _ _ h => h) (wanted_rd rfl) (fun w => run_ext3B _ rfl Qv w) ?_
    refine j_mv rfl rfl (fun _ _ _ h => h) (wanted_rd rfl) (fun w => run_ext3C _ rfl Qv w) ?_
    refine hcut _ _ ⟨_, D', vr, (szL _ _).trans hs, (defL _ _).trans hd, Qv, Qv, Qv, Qv, Qv, Qv, Eq.trans Qv (by rw [eF]), Qv, Eq.trans Qv (by rw [p1, hE]), fun i hi => (hD' i hi).trans (eN i hi), ?_⟩
    exact ((agI_base (ownI_base H hsz).f1 hsz).f1).f2
 ·obtain rfl : k = L.length := by have := of_decide_eq_false h; omega
  refine c_exit (x_out' ?_)
  refine c_rs ?_
  repeat first | refine qa ?_ | refine l_nx ?_
  refine c_ret (ret_of ((defL _ _).trans hd) (res_t3 rfl Qv Qv Qv) ⟨v1, v2, CL, RL, rfl, hCl, hRl, hC, hR, ?_⟩)
  exact (H.tl.wk (y := listI (fun d : Int × (Nat → Nd × Ad) => agI w.heap.size d.2) CL) (fun h x hx => h x (hCA x hx)) (fun j ⟨x, hx, hj⟩ => ⟨x, hCA x hx, hj⟩)).f1
end Go.Proofs.YtdhblehhgpdpdacGreat
namespace Go.Proofs.YtdhblehhgpdpdacGreat
open Go.RowKit
end Go.Proofs.YtdhblehhgpdpdacGreat
namespace Go.Proofs.YtdhblehhgpdpdacGreat
open Go.RowKit
end Go.Proofs.YtdhblehhgpdpdacGreat
namespace Go.Proofs.YtdhblehhgpdpdacGreat
open Go.RowKit
theorem run_neqTT {f : Operand → Value} {o : Oper} (x y : Operand) (ho : o.op = .binOp .neq 4 x y 4) {u v : Bool} (hx : f x = .bool u) (hy : f y = .bool v) (hb : u = v) (w : World) : (execOp f o).run Tryz.prog w = .ok (.value (.bool false)) w := by
 subst hb
 unfold execOp
 rw [ho]
 dsimp only
 rw [hx, hy]
 cases u <;> (change _ = _; kernel_rfl)
end Go.Proofs.YtdhblehhgpdpdacGreat
namespace Go.Proofs.YtdhblehhgpdpdacGreat
open Go.RowKit
def t1 : Tn := ⟨4294967296, 0, 4294967296, 429496729600⟩
def rdA1 (_ a : Nat) : Int := if a = 0 then 4294967296 else 0
def x1 : Ip := ⟨rdA1, -1, []⟩
theorem t1_ok : t1.Ok := ⟨by unfold R64 t1; decide, by unfold R64 t1; decide, by unfold R64 t1; decide, by unfold R64 t1; decide⟩
theorem x1_ok : IpOK x1 := ⟨fun s a => by show R64 (rdA1 s a); unfold rdA1; split <;> (unfold R64; decide), by unfold R64 x1; decide, fun y hy => by cases hy⟩
theorem hE1 : frE x1 (begC t1) = 0 := frE_zero (by unfold x1; decide) (show (0 : Int) ≤ 0 ∧ (0 : Int) ≤ 1073741823 by decide) (Nat.zero_le _) (fun i hi => (begC_inv t1 (-1)).id i hi)
theorem frR1 : frR x1 (begC t1) = [frN x1 (begC t1) 0, frN x1 (begC t1) 1, frN x1 (begC t1) 2, frN x1 (begC t1) 3] := by
 unfold frR
 rw [if_pos hE1]
 rfl
theorem al_strong : (frN x1 (begC t1) 3).vS = true := by
 have h := begC_inv t1 (-1)
 rw [fr_good h rfl hE1 (by decide) (by decide)]
 exact (jud_three hE1 (by decide) (by decide) (vt_all h rfl hE1 (by decide) (by decide))).2.1
theorem al_us {i : Nat} (hi : i < 4) : (frN x1 (begC t1) i).us 0 = 4294967296 := by
 have h := us_within (begC_inv t1 (-1)) rfl hE1 hi (by omega) (show 0 < 3 by decide) (lo := 4294967296) (hi' := 4294967296) (fun s _ _ => ⟨Int.le_refl _, Int.le_refl _⟩)
 omega
theorem al_used : (frN x1 (begC t1) 2).us 0 = 4294967296 := al_us (by decide)
theorem al_used1 : (frN x1 (begC t1) 1).us 0 = 4294967296 := al_us (by decide)
theorem al_place : 0 < ((frN x1 (begC t1) 1).ax 0).X := by
 rw [ax_follow (begC_inv t1 (-1)) rfl hE1 (by decide) (by decide), al_used1]
 show 0 < (stepS ((begN ((1 : Nat) : Int) t1).ax 0) t1 4294967296).X
 rw [begN_at t1 (by decide)]
 decide +kernel
section
variable {f : Operand → Value} {o : Oper}
theorem run_bldT1 (ho : o.op = .build 23 #[(0, .const (.int .i64 4294967296)), (2, .const (.int .i64 4294967296)), (3, .const (.int .i64 429496729600))]) (hc : ∀ v, f (.const v) = v) (w : World) : (execOp f o).run Tryz.prog w = .ok (.value (agV (ntnF t1) 0 4)) w := by
 unfold execOp
 rw [ho]
 simp only [List.map_toArray, List.map_cons, List.map_nil, hc]
 kernel_rfl
theorem run_bldR1 (ho : o.op = .build 27 #[(0, .const (.int .i64 4294967296))]) (hc : ∀ v, f (.const v) = v) (w : World) : (execOp f o).run Tryz.prog w = .ok (.value (agV (fun j => iV (rdA1 0 j)) 0 3)) w := by
 unfold execOp
 rw [ho]
 simp only [List.map_toArray, List.map_cons, List.map_nil, hc]
 kernel_rfl
theorem run_bldR4 {a b c d : Operand} (ho : o.op = .build 28 #[(0, a), (1, b), (2, c), (3, d)]) (ha : f a = agV (fun j => iV (rdA1 0 j)) 0 3) (hb : f b = agV (fun j => iV (rdA1 0 j)) 0 3) (hc : f c = agV (fun j => iV (rdA1 0 j)) 0 3) (hd : f d = agV (fun j => iV (rdA1 0 j)) 0 3) (w : World) : (execOp f o).run Tryz.prog w = .ok (.value (agV (rd4F rdA1) 0 12)) w := by
 unfold execOp
 rw [ho]
 simp only [List.map_toArray, List.map_cons, List.map_nil, ha, hb, hc, hd]
 kernel_rfl
theorem run_bldIn {a : Operand} (ho : o.op = .build 31 #[(0, a), (1, .const (.int .i64 (-1)))]) (ha : f a = agV (rd4F rdA1) 0 12) (hc : ∀ v, f (.const v) = v) (w : World) : (execOp f o).run Tryz.prog w = .ok (.value (agV (ipF rdA1 (-1) (.slice none 0 0)) 0 14)) w := by
 unfold execOp
 rw [ho]
 simp only [List.map_toArray, List.map_cons, List.map_nil, ha, hc]
 kernel_rfl
end
end Go.Proofs.YtdhblehhgpdpdacGreat
namespace Go.Proofs.YtdhblehhgpdpdacGreat
open Go.RowKit
theorem rpF2 (n : Nd) : rpF n 2 = .int .i64 (n.us 0) := rfl
theorem rpF5 (n : Nd) : rpF n 5 = .int .i64 (n.ax 0).X := rfl
theorem rpF9 (n : Nd) : rpF n 9 = .bool n.vS := rfl
set_option maxHeartbeats 2000000 in
theorem alive_any (w : World) : Calls Tryz.prog 12 #[] w fun e w' => e = .returned (.bool true) ∧ Below w.heap.size w w' := by
 refine enterF Tryz.func12 rfl 51 rfl (of_decide_eq_true rfl) (fun A hs hd hb => ?_)
 clear hb
 have H := Cx.start w
 refine c_rs (m_start ?_)
 refine qa ?_
 refine l_nx ?_
 refine c_rs ?_
 refine qg (run_bldT1 rfl (fun _ => rfl) _) ?_
 refine q_c1 (clBegin_ok t1 w t1_ok) ?_
 rintro e w1 ⟨D, rfl, hD, G⟩
 refine ⟨_, rfl, ?_⟩
 replace H := H.plus G
 iterate 4 refine qg (run_bldR1 rfl (fun _ => rfl) _) ?_
 refine qg (run_bldR4 rfl Qv Qv Qv Qv _) ?_
 refine qg (run_bldIn rfl Qv (fun _ => rfl) _) ?_
 have hag : ∀ i, i < 4 → AgRd w1 (D i).1 (D i).2.1 (D i).2.2 := fun i hi => by
  have ho : World.ownsRow _ _ _ _ _ _ _ := H.o0 i hi
  obtain ⟨a3, c3, e, hs3, _⟩ := owns_sr ho
  cases e
  exact hs3
 have hcls : ClsOK ⟨0, fun i => (D i).1⟩ := ⟨R64_zero, fun i hi => by show NdOK (D i).1; rw [hD i hi]; exact begN_okC t1_ok hi⟩
 obtain ⟨p1, p2, p3, p4⟩ := frC_congr (x := x1) (c := begC t1) (fr := 0) (D := D) rfl hD
 have hfr := frame_ok x1 0 D none 0 [] w1 rfl x1_ok hcls hag ⟨fun h => absurd h (Nat.lt_irrefl _), fun _ h => (by cases h)⟩
 change Calls _ _ #[agV (clG 0 D) 0 297, agV (ipF rdA1 (-1) (.slice none 0 0)) 0 14] _ _ at hfr
 refine q_c2 hfr ?_
 clear hfr
 rintro e w2 ⟨D', v, rfl, hD', G2⟩
 refine ⟨_, rfl, ?_⟩
 replace H := H.plus G2
 refine qa ?_
 refine qg (run_ext3A _ rfl Qv _) ?_
 refine qg (run_ext3B _ rfl Qv _) ?_
 refine qg (run_ext3C _ rfl Qv _) ?_
 refine q_al H ?_
 intro w3 H z3
 refine q_sp0 H stP_whole (clG_one _ _) ?_
 intro w4 H z4
 iterate 2 refine qa ?_
 refine l_nx ?_
 refine c_rs ?_
 rw [p4, frR1] at H
 have hrow : World.ownsRow _ _ _ _ _ _ _ := H.o1
 obtain ⟨g, cap, rfl, _, hcell⟩ := rwS_rd hrow (show 0 < 4 by decide) (by decide)
 have eF : (frC x1 ⟨0, fun i => (D i).1⟩).fr = 1 := by rw [p2]; unfold frC; rw [if_pos hE1]; rfl
 have c3 : w4.cell? ⟨g, 0 + 3 * 14 + 9, none⟩ = some (.bool true) := by
  have := hcell 3 _ rfl 9 (by decide)
  rw [this, rpF9, al_strong]
 have c2 : w4.cell? ⟨g, 0 + 2 * 14 + 2 + 0 * 1, none⟩ = some (.int .i64 ((frN x1 (begC t1) 2).us 0)) := by
  have h2 := hcell 2 (frN x1 (begC t1) 2) rfl 2 (by decide)
  rw [show 0 + 2 * 14 + 2 + 0 * 1 = 0 + 2 * 14 + 2 by decide, h2, rpF2]
 have c1 : w4.cell? ⟨g, 0 + 1 * 14 + 5 + 0 * 1, none⟩ = some (.int .i64 ((frN x1 (begC t1) 1).ax 0).X) := by
  have h2 := hcell 1 (frN x1 (begC t1) 1) rfl 5 (by decide)
  rw [show 0 + 1 * 14 + 5 + 0 * 1 = 0 + 1 * 14 + 5 by decide, h2, rpF5]
 refine qa ?_
 refine qg (run_eqlE (b := true) _ _ rfl Qv Qv (decide_eq_true (p1.trans hE1)) _) ?_
 iterate 2 refine qa ?_
 refine qg (LenK.run rfl Qv _) ?_
 refine qg (run_eqlI (b := true) _ _ rfl Qv Qv (decide_eq_true rfl) _) ?_
 refine qg (run_pickT' _ _ _ rfl Qv Qv _) ?_
 iterate 3 refine qa ?_
 refine qg (run_eqlI (b := true) _ _ rfl Qv Qv (decide_eq_true eF) _) ?_
 refine qg (run_pickT' _ _ _ rfl Qv Qv _) ?_
 iterate 2 refine qa ?_
 refine qg (run_ixSC (i := 3) _ _ _ _ rfl SlcK.out SizK.out Qv Qv rfl (show 3 < 4 by decide) _) ?_
 refine qa ?_
 refine qg (run_lodb _ rfl Qv c3) ?_
 refine qg (run_pickT' _ _ _ rfl Qv Qv _) ?_
 iterate 2 refine qa ?_
 refine qg (run_ixSC (i := 2) _ _ _ _ rfl SlcK.out SizK.out Qv Qv rfl (show 2 < 4 by decide) _) ?_
 refine qa ?_
 refine qg (run_ixG (i := 0) _ _ _ _ rfl ArrK.out SizK.out Qv Qv rfl (by decide) _) ?_
 refine qg (run_lodI _ rfl Qv c2) ?_
 refine qg (run_eqlI (b := true) _ _ rfl Qv Qv (decide_eq_true al_used) _) ?_
 refine qg (run_pickT' _ _ _ rfl Qv Qv _) ?_
 iterate 2 refine qa ?_
 refine qg (run_ixSC (i := 1) _ _ _ _ rfl SlcK.out SizK.out Qv Qv rfl (show 1 < 4 by decide) _) ?_
 refine qa ?_
 refine qg (run_ixG (i := 0) _ _ _ _ rfl ArrK.out SizK.out Qv Qv rfl (by decide) _) ?_
 refine qg (run_lodI _ rfl Qv c1) ?_
 refine qg (run_gtrI (b := true) _ _ rfl Qv Qv (decide_eq_true al_place) _) ?_
 refine qg (run_pickT' _ _ _ rfl Qv Qv _) ?_
 refine qa ?_
 refine l_nx ?_
 exact c_ret (ret_of ((defL _ _).trans hd) (res_t rfl Qv) ⟨rfl, H.bel⟩)
end Go.Proofs.YtdhblehhgpdpdacGreat
namespace Go.Proofs.YtdhblehhgpdpdacGreat
open Go.RowKit
def OneB (bad : Int) (L : List Li) : Prop := ∀ c, c ∈ L → c.bad = bad
theorem run_inv {t : Tn} {bad : Int} {L : List Li} (h : InOK L) (hb : OneB bad L) : ∀ k, k ≤ L.length → Inv t bad (cK t L k)
 | 0, _ => begC_inv t bad
 | k + 1, hk => by
  have ih := run_inv (t := t) h hb k (by omega)
  have hc := List.getElem?_eq_getElem (show k < L.length by omega)
  have hE := (cK_ok (t := t) h k (by omega)).2.2 _ hc
  rw [cK_succ hc]
  unfold frC
  rw [if_pos hE]
  exact inv_step ih (hb _ (List.getElem_mem (by omega))) hE
theorem cK_nd {t : Tn} {L : List Li} (h : InOK L) {k : Nat} {c : Li} (hc : L[k]? = some c) (i : Nat) : (cK t L (k + 1)).nd i = frN c.x (cK t L k) i := by
 have hk := (List.getElem?_eq_some_iff.1 hc).1
 rw [cK_succ hc]
 unfold frC
 rw [if_pos ((cK_ok (t := t) h k (by omega)).2.2 c hc)]
theorem oneM_in {bad : Int} {L : List Li} {n : Nat} (hn : n ≤ 1000) (h : -1 ≤ bad ∧ bad < 4) : InOK (oneM bad L n) := ⟨by unfold oneM; rw [List.length_map, List.length_take]; omega, fun c hc => by
 unfold oneM at hc
 obtain ⟨d, _, rfl⟩ := List.mem_map.1 hc
 refine ⟨h, ?_⟩
 show (d.LL.take 400).length ≤ 400
 rw [List.length_take]; omega⟩
theorem oneM_one {bad : Int} {L : List Li} {n : Nat} : OneB bad (oneM bad L n) := fun c hc => by
 unfold oneM at hc
 obtain ⟨d, _, rfl⟩ := List.mem_map.1 hc
 rfl
theorem oneM_ok {bad : Int} {L : List Li} {n : Nat} {w : World} (h : ∀ c, c ∈ L → LiOK w c) (hb : R64 bad) : ∀ c, c ∈ oneM bad L n → LiOK w c := fun c hc => by
 unfold oneM at hc
 obtain ⟨d, hd, rfl⟩ := List.mem_map.1 hc
 exact oneL_ok (h d (List.mem_of_mem_take hd)) hb
end Go.Proofs.YtdhblehhgpdpdacGreat
namespace Go.Proofs.YtdhblehhgpdpdacGreat
open Go.RowKit
end Go.Proofs.YtdhblehhgpdpdacGreat
namespace Go.Proofs.YtdhblehhgpdpdacGreat
open Go.RowKit
theorem run_lodX {P : Program} {f : Operand → Value} {o : Oper} {ty : TypeId} {x : Operand} (T : OneC P ty) {b off : Nat} {v : Value} {w : World} (hc : w.cell? ⟨b, off, none⟩ = some v) (ho : o.op = .load ty x) (hx : f x = .pointer (some ⟨b, off, none⟩)) : (execOp f o).run P w = .ok (.value v) w := by
 unfold execOp
 simp only [ho, hx, Instr.loadAt, Instr.sureAddr, loadVar, Sem.run_bind, Sem.run_pure, Result.andThen_ok, T.agg]
 go_simp
instance : ZerK Tryz.prog 53 3 (nvdF 0 false (.slice none 0 0)) := ⟨fun w => by kernel_rfl⟩
theorem run_len {t : Tn} {bad : Int} {L : List Li} (h : InOK L) (hb : OneB bad L) {k : Nat} {c : Li} {l : List Nd} (hc : L[k]? = some c) (hbd : -1 ≤ bad ∧ bad < 4) (e : l = frR c.x (cK t L k)) : (bad < 0 ∧ l.length = 4) ∨ (0 ≤ bad ∧ l.length = 3) := by
 have hk := (List.getElem?_eq_some_iff.1 hc).1
 have hE := (cK_ok (t := t) h k (by omega)).2.2 c hc
 have e2 : c.x.bad = bad := hb c (List.mem_of_getElem? hc)
 rw [e]
 unfold frR
 rw [if_pos hE, List.length_map, e2]
 have : bad = -1 ∨ bad = 0 ∨ bad = 1 ∨ bad = 2 ∨ bad = 3 := by omega
 rcases this with rfl | rfl | rfl | rfl | rfl
 ·exact Or.inl ⟨by decide, by decide⟩
 all_goals exact Or.inr ⟨by decide, by decide⟩
end Go.Proofs.YtdhblehhgpdpdacGreat
namespace Go.Proofs.YtdhblehhgpdpdacGreat
open Go.RowKit
structure Twn (n m : Nd) : Prop where
 ax : ∀ a, a < 3 → n.ax a = m.ax a
 rl : RlE n.rl m.rl
 ag : ∀ s a, s < 4 → a < 3 → n.ag s a = m.ag s a
 us : ∀ a, a < 3 → n.us a = m.us a
 dg : n.dg = m.dg
 fr : n.fr = m.fr
 vX : n.vX = m.vX
 vS : n.vS = m.vS
 vA : n.vA = m.vA
section
variable {n m : Nd} {v u : Value}
end
end Go.Proofs.YtdhblehhgpdpdacGreat
namespace Go.Proofs.YtdhblehhgpdpdacGreat
open Go.RowKit
theorem twn_frame {t : Tn} {bad : Int} {x : Ip} {c : Cl} (h : Inv t bad c) (hb : x.bad = bad) (hE : frE x c = 0) {p q : Nat} (hp : p < 4) (hq : q < 4) (gp : (p : Int) ≠ bad) (gq : (q : Int) ≠ bad) : Twn (frN x c p) (frN x c q) := by
 have gp' : (p : Int) ≠ x.bad := by rw [hb]; exact gp
 have gq' : (q : Int) ≠ x.bad := by rw [hb]; exact gq
 have s := inv_step h hb hE
 have ax := s.ax p q hp hq gp gq
 have rl := s.rl p q hp hq gp gq
 have ax : ∀ a, a < 3 → (frN x c p).ax a = (frN x c q).ax a := ax
 have rl : RlE (frN x c p).rl (frN x c q).rl := rl
 rw [fr_good h hb hE hp gp, fr_good h hb hE hq gq] at ax rl ⊢
 refine ⟨ax, rl, fun s a hs ha => ?_, fun a ha => ?_, ?_, ?_, ?_, ?_, vA_like h hb hE hp hq gp gq⟩
 ·rw [n5_ag hE hp gp', n5_ag hE hq gq']
  exact ag_same hE hp hq hs gp' gq' ha
 ·rw [n5_us hE hp gp', n5_us hE hq gq']
  exact us_same hE hp hq gp' gq' (h.rl p q hp hq gp gq) ha
 ·rw [n5_dg hE hp gp', n5_dg hE hq gq']
  exact dg_all h hb hE hp hq gp gq
 ·rw [fr5 hE hp gp', fr5 hE hq gq']
 ·rw [vX_good h hb hE hp gp, vX_good h hb hE hq gq, n5_dg hE hp gp', n5_dg hE hq gq']
  exact dg_all h hb hE hp hq gp gq
 ·rw [(jud_three hE hp gp' (vt_all h hb hE hp gp)).2.1, (jud_three hE hq gq' (vt_all h hb hE hq gq)).2.1]
theorem run_twn {t : Tn} {bad : Int} {L : List Li} (h : InOK L) (hb : OneB bad L) {k p q : Nat} (hk : k < L.length) (hp : p < 4) (hq : q < 4) (gp : (p : Int) ≠ bad) (gq : (q : Int) ≠ bad) : Twn ((cK t L (k + 1)).nd p) ((cK t L (k + 1)).nd q) := by
 have hc := List.getElem?_eq_getElem hk
 rw [cK_nd h hc, cK_nd h hc]
 exact twn_frame (run_inv h hb k (by omega)) (hb _ (List.getElem_mem hk)) ((cK_ok (t := t) h k (by omega)).2.2 _ hc) hp hq gp gq
end Go.Proofs.YtdhblehhgpdpdacGreat
namespace Go.Proofs.YtdhblehhgpdpdacGreat
open Go.RowKit
section
variable {t : Tn} {bad : Int} {L : List Li} {k : Nat} {c : Li}
theorem frR_mem (h : InOK L) (hb : OneB bad L) (hc : L[k]? = some c) {n : Nd} (hn : n ∈ frR c.x (cK t L k)) : ∃ i : Nat, i < 4 ∧ (i : Int) ≠ bad ∧ n = (cK t L (k + 1)).nd i ∧ n.id = (i : Nat) ∧ n.fr = (k : Nat) := by
 have hk := (List.getElem?_eq_some_iff.1 hc).1
 obtain ⟨hf, _, hE⟩ := cK_ok (t := t) h k (by omega)
 have hE := hE c hc
 have e : c.x.bad = bad := hb c (List.mem_of_getElem? hc)
 unfold frR at hn
 rw [if_pos hE] at hn
 obtain ⟨i, hi, rfl⟩ := List.mem_map.1 hn
 unfold gdL at hi
 have h1 := List.mem_filter.1 hi
 have i4 := List.mem_range.1 h1.1
 have gi : (i : Int) ≠ bad := by rw [← e]; exact of_decide_eq_true h1.2
 refine ⟨i, i4, gi, (cK_nd h hc i).symm, frN_id hE i4, ?_⟩
 rw [fr_good (run_inv h hb k (by omega)) e hE i4 gi, fr5 hE i4 (by rw [e]; exact gi), hf]
def fgN (bad : Int) : Nat := if bad = 0 then 1 else 0
theorem fgN_ok (bad : Int) : fgN bad < 4 ∧ (fgN bad : Int) ≠ bad := by
 unfold fgN
 split
 ·rename_i h; subst h; exact ⟨by omega, by omega⟩
 ·rename_i h; exact ⟨by omega, fun e => h e.symm⟩
theorem frR_head (h : InOK L) (hb : OneB bad L) (hbd : -1 ≤ bad ∧ bad < 4) (hc : L[k]? = some c) : (frR c.x (cK t L k))[0]? = some ((cK t L (k + 1)).nd (fgN bad)) := by
 have hk := (List.getElem?_eq_some_iff.1 hc).1
 have hE := (cK_ok (t := t) h k (by omega)).2.2 c hc
 have e : c.x.bad = bad := hb c (List.mem_of_getElem? hc)
 unfold frR
 rw [if_pos hE, e, cK_nd h hc]
 have : bad = -1 ∨ bad = 0 ∨ bad = 1 ∨ bad = 2 ∨ bad = 3 := by omega
 rcases this with rfl | rfl | rfl | rfl | rfl <;> rfl
theorem run_silent {b : Nat} (h4 : b < 4) (h : InOK L) (hb : OneB (b : Int) L) (hl : ∀ c, c ∈ L → c.LL = []) {g : Nat} (hg : g < 4) (gb : g ≠ b) : ∀ k, k ≤ L.length → (∀ j, j < k → ((cK t L (j + 1)).nd g).dg ≠ 0) →
  (k = 0 → ((cK t L k).nd g).rl.I b = true ∧ ((cK t L k).nd g).rl.M b = 0) ∧ (k = 1 → ((cK t L k).nd g).rl.I b = true ∧ ((cK t L k).nd g).rl.M b = 1) ∧ (2 ≤ k → ((cK t L k).nd g).rl.I b = false)
 | 0, _, _ => ⟨fun _ => by
   show (begN ((g : Nat) : Int) t).rl.I b = true ∧ (begN ((g : Nat) : Int) t).rl.M b = 0
   rw [begN_at t hg]
   exact ⟨rfl, rfl⟩, fun h => by omega, fun h => by omega⟩
 | k + 1, hk, hd => by
  obtain ⟨i0, i1, i2⟩ := run_silent h4 h hb hl hg gb k (by omega) (fun j hj => hd j (by omega))
  have hc := List.getElem?_eq_getElem (show k < L.length by omega)
  obtain ⟨c, ec⟩ : ∃ c, c = L[k]'(by omega) := ⟨_, rfl⟩
  rw [← ec] at hc
  have hm := List.mem_of_getElem? hc
  have hE := (cK_ok (t := t) h k (by omega)).2.2 _ hc
  have e : c.x.bad = (b : Int) := hb _ hm
  have hi := run_inv (t := t) h hb k (by omega)
  have gg : (g : Int) ≠ (b : Int) := by omega
  have gx : (g : Int) ≠ c.x.bad := by rw [e]; exact gg
  have el : c.x.ly = [] := by show c.LL.map Lj.y = []; rw [hl c hm]; rfl
  have hd := hd k (by omega)
  have hfr : (cK t L (k + 1)).nd g = ndK c.x (cK t L k) 5 g := by rw [cK_nd h hc, fr_good hi e hE hg gg]
  rw [hfr] at hd ⊢
  rw [n5_dg hE hg gx] at hd
  rw [rl_good hi e hE hg gg]
  have hv := vt_all hi e hE hg gg
  have hA : ∀ s, s < 4 → s ≠ b → decide (vtK c.x (cK t L k) g s = (ndK c.x (cK t L k) 3 g).dg) = true ∧ ((cK t L k).nd g).rl.I s = true ∧ ((cK t L k).nd g).rl.M s = 0 := fun s hs es => ⟨decide_eq_true (hv s hs (by omega)).1, hi.on g s hg hs gg (by omega)⟩
  have h0 : decide (vtK c.x (cK t L k) g b = (ndK c.x (cK t L k) 3 g).dg) = false := decide_eq_false (by rw [vt_silent hE el e h4 hg gx]; exact fun q => hd q.symm)
  obtain ⟨d1, d2, d3⟩ := rn_dis (A := fun s => decide (vtK c.x (cK t L k) g s = (ndK c.x (cK t L k) 3 g).dg)) (r := ((cK t L k).nd g).rl) h4 hA h0
  refine ⟨fun h => by omega, fun h1 => ?_, fun h2 => ?_⟩
  ·obtain ⟨q1, q2⟩ := i0 (by omega)
   exact d2 q1 q2
  ·by_cases e1 : k = 1
   ·obtain ⟨q1, q2⟩ := i1 e1
    exact d3 q1 q2
   ·exact d1 (i2 (by omega))
end
end Go.Proofs.YtdhblehhgpdpdacGreat
namespace Go.Proofs.YtdhblehhgpdpdacGreat
open Go.RowKit
theorem rpF8 (n : Nd) : rpF n 8 = .int .i64 n.dg := rfl
end Go.Proofs.YtdhblehhgpdpdacGreat
namespace Go.Proofs.YtdhblehhgpdpdacGreat
open Go.RowKit
def silL (c : Li) : Li := ⟨c.rd, c.bad, [], none, 0⟩
theorem sil_in {L : List Li} (h : InOK L) : InOK (L.map silL) := ⟨by rw [List.length_map]; exact h.1, fun c hc => by
 obtain ⟨d, hd, rfl⟩ := List.mem_map.1 hc
 exact ⟨(h.2 d hd).1, by show ([] : List Lj).length ≤ 400; exact Nat.zero_le _⟩⟩
theorem sil_one {bad : Int} {L : List Li} (h : OneB bad L) : OneB bad (L.map silL) := fun c hc => by
 obtain ⟨d, hd, rfl⟩ := List.mem_map.1 hc
 exact h d hd
theorem sil_ok {w : World} {c : Li} (h : LiOK w c) : LiOK w (silL c) := ⟨⟨h.ip.rd, h.ip.bad, fun y hy => by cases hy⟩, ⟨fun hl => absurd hl (Nat.lt_irrefl 0), fun c hc => by cases hc⟩, Nat.le_refl _⟩
def Vg (t : TypeId) (w : World) (b N cap : Nat) (g : Nat → Value) : Prop :=
 ∃ cur : Array Value, w.heap[b]? = some (.cells cur t (0, 0)) ∧ cur.size = cap ∧ N ≤ cap ∧ ∀ i, i < N → cur[i]? = some (g i)
section
variable {t : TypeId} {w w' : World} {b N cap : Nat} {g : Nat → Value}
theorem Vg.cell (h : Vg t w b N cap g) {i : Nat} (hi : i < N) : w.cell? ⟨b, i, none⟩ = some (g i) := by
 obtain ⟨c, hb, _, _, hc⟩ := h
 simp [World.cell?, hb, hc i hi]
theorem Vg.free (h : Vg t w b N cap g) (i : Nat) : w.frozen? ⟨b, i, none⟩ = false := by
 obtain ⟨c, hb, _⟩ := h
 simp [World.frozen?, hb]
theorem Vg.lt (h : Vg t w b N cap g) : b < w.heap.size := by
 obtain ⟨c, hb, _⟩ := h
 exact lt_of_block hb
theorem Vg.same (h : Vg t w b N cap g) (e : w'.heap[b]? = w.heap[b]?) : Vg t w' b N cap g := by
 obtain ⟨c, hb, hr⟩ := h
 exact ⟨c, e.trans hb, hr⟩
theorem Vg.congr {f : Nat → Value} (h : Vg t w b N cap g) (e : ∀ i, i < N → g i = f i) : Vg t w b N cap f := by
 obtain ⟨c, hb, h1, h2, h4⟩ := h
 exact ⟨c, hb, h1, h2, fun i hi => by rw [h4 i hi, e i hi]⟩
theorem Vg.set (h : Vg t w b N cap g) (i : Nat) (x : Value) : Vg t (w.setCell ⟨b, i, none⟩ x) b N cap (stW g i x) := by
 obtain ⟨c, hb, hn, h2, hc⟩ := h
 refine ⟨c.setIfInBounds i x, ?_, by simpa using hn, h2, fun j hj => ?_⟩
 ·simp [World.setCell, Array.getElem?_modify, hb]
 ·rw [Array.getElem?_setIfInBounds]
  by_cases e : j = i
  ·subst e
   rw [stW_same]
   simp [hn]; omega
  ·rw [if_neg (fun h => e h.symm), stW_other g x e]
   exact hc j hj
end
theorem wp_stoG {P : Program} {o : Oper} {a : Act} {K : Act → World → Prop} {Q : Exit → Act → World → Prop} (w : World) (ty : TypeId) (x y : Operand) (ho : o.op = .store ty x y) {b k N cap : Nat} {t : TypeId} {g : Nat → Value} {v : Value} (T : OneC P ty) (hx : a.eval x = .pointer (some ⟨b, k, none⟩)) (hy : a.eval y = v) (hm : Vg t w b N cap g) (hn : k < N)
  (h1 : v.oneCell' = true) (h2 : v.cells = #[v]) (hd : o.dst = none)
  (h : ∀ w', Vg t w' b N cap (stW g k v) → Kept b w w' → w'.heap.size = w.heap.size → K a w') : WpI P o a w K Q := by
 refine ⟨?_⟩
 have hh := h _ (hm.set k v) (kept_set w b k v) (by simp)
 have st : (storeVar ty ⟨b, k, none⟩ v).run P w = .ok () (w.setCell ⟨b, k, none⟩ v) := by
  have hst : (store ((⟨b, k, none⟩ : Addr).add 0) v).run P w = .ok () (w.setCell ⟨b, k, none⟩ v) := by
   rw [add_at, Nat.add_zero, run_store P w _ _ _ h1, hm.cell hn]
   simp [hm.free]
  unfold storeVar
  simp only [h2, Sem.run_bind, T.size, Result.andThen_ok]
  simp [storeCells, hst]
 unfold Oper.wp execOp
 simp only [ho, hx, hy, Instr.storeAt, Instr.sureAddr, Sem.run_bind, Sem.run_pure, Result.andThen_ok, st]
 show K (a.put o.dst undef) _
 rw [hd]
 exact hh
def vhN (n : Nat) (t : TypeId) (b N cap : Nat) (g : Nat → Value) : It := ⟨fun w => 0 < n → Vg t w b N cap g, fun k => 0 < n ∧ k = b, fun h e hn => Vg.same (h hn) (e _ (h hn).lt ⟨hn, rfl⟩), fun h e => e.2 ▸ (h e.1).lt⟩
def eltF {α : Type} (F : α → Nat → Value) (s : Nat) (L : List α) (j : Nat) : Value := match L[j / s]? with | some x => F x (j % s) | none => undef
theorem vh_owns {α : Type} {F : α → Nat → Value} {s : Nat} {e : TypeId} {w : World} {B n : Nat} {v : Value} {L : List α} (h : w.ownsRow B e s v n (rwS F s L)) (hp : 0 < L.length) (hs : 0 < s) : ∃ g cap c, v = .slice (some ⟨g, 0, none⟩) n cap ∧ B ≤ g ∧ Vg e w g (L.length * s) c (eltF F s L) := by
 obtain ⟨g, cap, ev, hB, hc⟩ := rwS_rd h hp hs
 have hl := h.1
 rw [rwS_len] at hl
 rcases h.2 with ⟨rfl, rfl⟩ | ⟨r, cap2, cur, ev2, hb, hg, hcn, hm, hsz, hcur⟩
 ·cases ev
 ·rw [ev2] at ev
  obtain ⟨rfl, rfl⟩ : g = r ∧ cap = cap2 := by cases ev; exact ⟨rfl, rfl⟩
  have hfit : L.length * s ≤ cur.size := by rw [hl, hsz]; exact Nat.mul_le_mul_right s hcn
  refine ⟨g, cap, cur.size, ev2, hb, cur, hg, rfl, hfit, fun i hi => ?_⟩
  have hi2 : i / s < L.length := Nat.div_lt_of_lt_mul (by rw [Nat.mul_comm]; exact hi)
  have hx := List.getElem?_eq_getElem hi2
  have hmd : i % s < s := Nat.mod_lt _ hs
  have hce := hc (i / s) _ hx (i % s) hmd
  rw [show 0 + i / s * s + i % s = i by rw [Nat.zero_add, Nat.mul_comm, Nat.div_add_mod]] at hce
  have e2 : eltF F s L i = F L[i / s] (i % s) := by unfold eltF; rw [hx]
  rw [e2]
  have hil : i < cur.size := by omega
  have h4 : w.cell? ⟨g, i, none⟩ = cur[i]? := by simp [World.cell?, hg]
  rw [← h4]
  exact hce
def silF (L : List Li) (k j : Nat) : Value := match L[j / 14]? with | some c => if j / 14 < k then inpF (silL c) (j % 14) else inpF c (j % 14) | none => undef
theorem silF_0 (L : List Li) (j : Nat) : eltF inpF 14 L j = silF L 0 j := by
 unfold eltF silF
 cases L[j / 14]? with
 | none => rfl
 | some c => dsimp only; rw [if_neg (Nat.not_lt_zero _)]
theorem silF_next {L : List Li} {k : Nat} {c : Li} (hc : L[k]? = some c) : ∀ j, j < L.length * 14 → stW (silF L k) (0 + k * 14 + 13) (.slice none 0 0) j = silF L (k + 1) j := fun j _ => by
 by_cases e : j = 0 + k * 14 + 13
 ·rw [e]
  have : (0 + k * 14 + 13) / 14 = k := by omega
  unfold silF
  rw [this, hc]
  dsimp only
  rw [if_pos (Nat.lt_succ_self k), show (0 + k * 14 + 13) % 14 = 13 by omega]
  exact stW_same _ _ _
 ·rw [stW_other _ _ e]
  unfold silF
  cases h : L[j / 14]? with
  | none => rfl
  | some c' =>
   dsimp only
   by_cases e1 : j / 14 < k
   ·rw [if_pos e1, if_pos (by omega)]
   ·by_cases e2 : j / 14 = k
    ·rw [if_neg e1, if_pos (by omega)]
     have h13 : j % 14 ≠ 13 := by omega
     unfold inpF ipF silL
     by_cases e3 : j % 14 < 12
     ·rw [if_pos e3, if_pos e3]
     ·rw [if_neg e3, if_neg e3, if_pos (by omega), if_pos (by omega)]
    ·rw [if_neg e1, if_neg (by omega)]
theorem silF_end {L : List Li} {w : World} {r cap : Nat} {mo : Option Addr} (hv : 0 < L.length → mo = some ⟨r, 0, none⟩) (h : 0 < L.length → Vg 31 w r (L.length * 14) cap (silF L L.length)) : RdS inpF 14 w mo (L.map silL) := fun hl => by
 rw [List.length_map] at hl
 refine ⟨r, 0, hv hl, fun i c hi k hk => ?_⟩
 rw [List.getElem?_map] at hi
 obtain ⟨d, hd, rfl⟩ := Option.map_eq_some_iff.1 hi
 have hil := (List.getElem?_eq_some_iff.1 hd).1
 have := (h hl).cell (i := 0 + i * 14 + k) (by omega)
 rw [this]
 unfold silF
 rw [show (0 + i * 14 + k) / 14 = i by omega, hd]
 dsimp only
 rw [if_pos hil, show (0 + i * 14 + k) % 14 = k by omega]
theorem rpF_in (n : Nd) {b : Nat} (hb : b < 4) : rpF n (0 + 10 + b * 1) = .bool (n.rl.I b) := by
 match b, hb with
 | 0, _ => rfl
 | 1, _ => rfl
 | 2, _ => rfl
 | 3, _ => rfl
set_option maxHeartbeats 2000000 in
theorem topSilent_walk {w : World} (t : Tn) (mo : Option Addr) (mc : Nat) (L : List Li) (bad : Int) (ht : t.Ok) (hr : RdS inpF 14 w mo L) (hok : ∀ c, c ∈ L → LiOK w c) (_ : R64 bad) :
  Calls Tryz.prog 4 #[agV (ntnF t) 0 4, .slice mo L.length mc, .int .i64 bad] w fun e w' => e = .returned (.bool true) ∧ Below w.heap.size w w' := by
 refine enterF Tryz.func4 rfl 76 rfl (of_decide_eq_true rfl) (fun A hs hd hb => ?_)
 have b0 : A.eval (.tmp 0) = agV (ntnF t) 0 4 := hb 0 _ rfl
 have b1 : A.eval (.tmp 1) = .slice mo L.length mc := hb 1 _ rfl
 have b2 : A.eval (.tmp 2) = .int .i64 bad := hb 2 _ rfl
 clear hb
 have H := Cx.start w
 refine c_rs (m_start ?_)
 refine q_box H ?_
 intro w1 H z1
 refine qa ?_
 refine l_nx ?_
 refine c_rs ?_
 refine qa ?_
 refine q_c2 (spotT_any bad 4 (by decide) (by decide) w1) ?_
 rintro e w2 ⟨b, hb4, rfl, rfl⟩
 refine ⟨_, rfl, ?_⟩
 refine qa ?_
 refine l_nx ?_
 have hb4 : b < 4 := by omega
 obtain ⟨bd, ebd⟩ : ∃ bd : Int, bd = (b : Int) := ⟨_, rfl⟩
 have hbd : -1 ≤ bd ∧ bd < 4 := by omega
 rw [← ebd]
 refine c_rs ?_
 iterate 2 refine qa ?_
 have hsz := H.size
 refine q_c2 (one_any bd mo mc L _ (hr.below H.bel) (fun c hc => (hok c hc).below H.bel)) ?_
 rintro e w3 ⟨v3, rfl, G3⟩
 replace H := ownI_base (H.plus G3) hsz
 refine ⟨_, rfl, ?_⟩
 have hrow : World.ownsRow _ _ _ _ _ _ _ := H.o0
 obtain ⟨m3, c3, rfl, hc3⟩ := rw_slice hrow
 have hin0 := oneM_in (L := L) (n := 40) (by decide) hbd
 have hbr : R64 bd := by unfold R64; omega
 have hone0 : OneB bd (oneM bd L 40) := oneM_one
 have hok0 : ∀ c, c ∈ oneM bd L 40 → LiOK w c := oneM_ok hok hbr
 obtain ⟨O, eO⟩ : ∃ O, O = oneM bd L 40 := ⟨_, rfl⟩
 rw [← eO] at H hrow hin0 hone0 hok0
 have hOl : O.length ≤ 1000 := hin0.1
 obtain ⟨rb, cb, hm3, hvh⟩ : ∃ rb cb, (0 < O.length → m3 = some ⟨rb, 0, none⟩) ∧ (0 < O.length → Vg 31 w3 rb (O.length * 14) cb (silF O 0)) := by
  by_cases h0 : 0 < O.length
  ·obtain ⟨g, cap, c, ev, _, hv⟩ := vh_owns hrow h0 (by decide)
   cases ev
   exact ⟨g, c, fun _ => rfl, fun _ => hv.congr (fun j _ => silF_0 O j)⟩
  ·exact ⟨0, 0, fun h => absurd h h0, fun h => absurd h h0⟩
 replace H := H.wk (y := vhN O.length 31 rb (O.length * 14) cb (silF O 0)) (fun _ => hvh) (fun k hk => by rw [hm3 hk.1, hk.2]; rfl)
 refine qa ?_
 refine l_nx ?_
 refine c_nx ?_
 refine c_rs ?_
 rw [← eO]
 iterate 3 refine qa ?_
 refine l_nx ?_
 refine c_block ?_
 refine c_loop (fun r A W => ∃ k : Nat, k ≤ O.length ∧ O.length - k ≤ r ∧ A.tmps.size = 76 ∧ A.defers = [] ∧ A.eval (.tmp 1) = .slice m3 O.length c3 ∧ A.eval (.tmp 2) = .int .i64 bd ∧ A.eval (.tmp 3) = .pointer (some ⟨w.heap.size, 0, none⟩) ∧ A.eval (.tmp 21) = .int .i64 (O.length : Int) ∧ A.eval (.tmp 22) = .int .i64 (k : Int) ∧ Cx w W [vhN O.length 31 rb (O.length * 14) cb (silF O k), vhI 23 w.heap.size 4 4 (ntnF t)]) O.length
  ⟨0, Nat.zero_le _, by omega, (szL _ _).trans hs, (defL _ _).trans hd, Qv, Qv, Qv, Qv, Qv, H⟩ (fun r B W hI => ?_)
 clear b0 b1 b2 hs hd H
 obtain ⟨k, hk, hkr, hs, hd, b1, b2, b3, b21, b22, H⟩ := hI
 refine c_rs (m_start ?_)
 repeat first | refine qa ?_ | refine l_nx ?_ | refine c_nx ?_
 refine q_if (fun h => ?_) (fun h => ?_)
 ·have kn : k < O.length := by have := of_decide_eq_true h; omega
  have k0 : 0 < O.length := by omega
  have em := hm3 k0
  subst em
  have hck := List.getElem?_eq_getElem kn
  refine c_fin ?_
  refine c_nx (c_block ?_)
  refine c_rs ?_
  iterate 2 refine qa ?_
  refine l_nx ?_
  refine c_region ?_
  iterate 2 refine qa ?_
  refine qg (run_ixSC _ _ _ _ rfl SlcK.out SizK.out Qv Qv rfl kn _) ?_
  refine qa ?_
  refine m_st (wanted_rd rfl) (fun K hK => ?_)
  refine wp_stoG _ _ _ _ rfl OneK.out Qv Qv (H.o0 k0) (by omega) rfl rfl rfl ?_
  intro w4 m4 k4 z4
  replace H := H.p0 k4.os k4.tape k4.output k4.size (fun j h1 h2 => k4.block j h1 (fun e => h2 ⟨k0, e⟩)) (vhN O.length 31 rb (O.length * 14) cb (silF O (k + 1))) (fun _ => m4.congr (silF_next hck)) (fun _ h => Or.inl h)
  refine hK _ ?_
  clear hK K
  refine l_finB ?_
  refine c_region ?_
  repeat refine qa ?_
  exact l_round ⟨O.length - (k + 1), by omega, k + 1, by omega, by omega, (szL _ _).trans hs, (defL _ _).trans hd, Qv, Qv, Qv, Qv, Eq.trans Qv (by rw [Int.natCast_add]; rfl), H⟩
 have ek : k = O.length := by have := of_decide_eq_false h; omega
 rw [ek] at H
 refine c_exit (x_out ?_)
 have hrM : RdS inpF 14 W m3 (O.map silL) := silF_end hm3 H.o0
 have hin := sil_in hin0
 have hone := sil_one hone0
 have hokM : ∀ c, c ∈ O.map silL → LiOK w c := fun c hc => by
  obtain ⟨d, hd, rfl⟩ := List.mem_map.1 hc
  exact sil_ok (hok0 d hd)
 have hlies : ∀ c, c ∈ O.map silL → c.LL = [] := fun c hc => by
  obtain ⟨d, hd, rfl⟩ := List.mem_map.1 hc
  rfl
 have eln : (O.map silL).length = O.length := List.length_map _
 obtain ⟨M, eM⟩ : ∃ M, M = O.map silL := ⟨_, rfl⟩
 rw [← eM] at hrM hin hone hokM hlies eln
 refine c_rs ?_
 iterate 2 refine qa ?_
 refine q_c2 (behind_any t m3 c3 M _ ht hrM (fun c hc => (hokM c hc).below H.bel) hin) ?_ (hy := Eq.trans Qv (by rw [eln]))
 rintro e w4 ⟨v1, v2, CL, RL, rfl, hCl, hRl, hC, hR, G4⟩
 replace H := H.plus G4
 refine ⟨_, rfl, ?_⟩
 refine qa ?_
 refine qg (run_ext3A _ rfl Qv _) ?_
 refine qg (run_ext3B _ rfl Qv _) ?_
 refine qg (run_ext3C _ rfl Qv _) ?_
 iterate 3 refine qa ?_
 refine l_nx ?_
 refine c_nx ?_
 refine c_rs ?_
 refine q_c0 (alive_any w4) ?_
 rintro e w5 ⟨rfl, k5⟩
 refine ⟨_, rfl, ?_⟩
 replace H := H.call k5
 iterate 4 refine qa ?_
 refine qg (run_pickF _ _ _ rfl Qv Qv _) ?_
 refine l_nx ?_
 refine q_no rfl (c_fin ?_)
 have F := H
 have hcr : World.ownsRow _ _ _ _ _ _ _ := F.o0
 obtain ⟨c1, q1, rfl, hq1⟩ := rw_slice hcr
 have hrr : World.ownsRow _ _ _ _ _ _ _ := F.o2
 obtain ⟨c2, q2, rfl, hq2⟩ := rw_slice hrr
 have hsm : RL.length ≤ 1000 := by omega
 have ecr : CL.length = RL.length := by omega
 replace H := Cx.start w5
 refine c_rs ?_
 refine qa ?_
 refine l_nx ?_
 refine c_nx ?_
 refine c_rs ?_
 iterate 3 refine qa ?_
 refine l_nx ?_
 refine c_block ?_
 refine c_loop (fun r A W => ∃ k : Nat, k ≤ RL.length ∧ RL.length - k ≤ r ∧ (∀ j, j < k → ((cK t M (j + 1)).nd (fgN bd)).dg ≠ 0) ∧ A.tmps.size = 76 ∧ A.defers = [] ∧ A.eval (.tmp 2) = .int .i64 bd ∧ A.eval (.tmp 9) = .slice c2 RL.length q2 ∧ A.eval (.tmp 11) = .int .i64 (k : Int) ∧ A.eval (.tmp 44) = .int .i64 (RL.length : Int) ∧ A.eval (.tmp 45) = .int .i64 (k : Int) ∧ Cx w5 W []) RL.length
  ⟨0, Nat.zero_le _, by omega, fun j h => absurd h (Nat.not_lt_zero j), (szL _ _).trans hs, (defL _ _).trans hd, Qv, Qv, Qv, Eq.trans Qv (by rw [ecr]), Qv, H⟩ (fun r B W hI => ?_)
 clear b1 b2 b3 b21 b22 hs hd H
 obtain ⟨k, hk, hkr, hdg, hs, hd, b2, b9, b11, b44, b45, H⟩ := hI
 refine c_rs (m_start ?_)
 repeat first | refine qa ?_ | refine l_nx ?_ | refine c_nx ?_
 refine q_if (fun h => ?_) (fun h => ?_)
 ·have kr : k < RL.length := by have := of_decide_eq_true h; omega
  have kl : k < M.length := by omega
  have hcc := List.getElem?_eq_getElem kl
  obtain ⟨cc, ecc⟩ : ∃ cc, cc = M[k] := ⟨_, rfl⟩
  rw [← ecc] at hcc
  have hre := List.getElem?_eq_getElem kr
  obtain ⟨u, eu⟩ : ∃ u, u = RL[k] := ⟨_, rfl⟩
  rw [← eu] at hre
  have hum : u ∈ RL := List.mem_of_getElem? hre
  have hu := hR k u cc hre hcc
  have hhd := frR_head (t := t) hin hone hbd hcc
  rw [← hu] at hhd
  obtain ⟨n0, en0⟩ : ∃ n0, n0 = (cK t M (k + 1)).nd (fgN bd) := ⟨_, rfl⟩
  rw [← en0] at hhd
  have hl0 : 0 < u.1.length := (List.getElem?_eq_some_iff.1 hhd).1
  obtain ⟨g2, cap2, eg2, _, hcell2⟩ := rwS_rd hrr (by omega) (by decide)
  obtain ⟨rfl, rfl⟩ : c2 = some ⟨g2, 0, none⟩ ∧ q2 = cap2 := by cases eg2; exact ⟨rfl, rfl⟩
  have hlod : w5.cell? ⟨g2, 0 + k * 1, none⟩ = some (.slice u.2.1 u.1.length u.2.2) := hcell2 k u hre 0 (by omega)
  have hur : World.ownsRow _ _ _ _ _ _ _ := F.o3 u hum
  obtain ⟨g3, cap3, eg3, _, hcell3⟩ := rwS_rd hur hl0 (by decide)
  have eg3' : u.2.1 = some ⟨g3, 0, none⟩ := by unfold slV at eg3; cases eg3' : u.2.1 with | none => rw [eg3'] at eg3; cases eg3 | some z => rw [eg3'] at eg3; cases eg3; rfl
  have hc0 := hcell3 0 n0 hhd
  have hlod3 : w5.cell? ⟨g2, 0 + k * 1, none⟩ = some (.slice (some ⟨g3, 0, none⟩) u.1.length u.2.2) := by rw [hlod, eg3']
  have hdg0 : w5.cell? ⟨g3, 0 + 0 * 14 + 8, none⟩ = some (.int .i64 n0.dg) := by rw [hc0 _ (by omega), rpF8]
  refine c_fin ?_
  refine c_nx (c_block ?_)
  refine c_rs ?_
  iterate 2 refine qa ?_
  refine l_nx ?_
  refine c_nx ?_
  refine c_rs ?_
  iterate 2 refine qa ?_
  refine qg (run_ixSC _ _ _ _ rfl SlcK.out SizK.out Qv Qv rfl kr _) ?_
  refine qg (run_lodX OneK.out (at_below hlod3 H.bel) rfl Qv) ?_
  refine qg (run_ixSC (i := 0) _ _ _ _ rfl SlcK.out SizK.out Qv Qv rfl hl0 _) ?_
  refine qa ?_
  refine qg (run_lodX OneK.out (at_below hdg0 H.bel) rfl Qv) ?_
  refine qg (run_eqlI _ _ rfl Qv Qv rfl _) ?_
  refine l_nx ?_
  refine q_if (fun h => ?_) (fun h => ?_)
  ·refine c_rs ?_
   refine qa ?_
   refine l_nx ?_
   exact c_ret (r_nx (r_bl (r_nx (r_th (r_bl (r_nx (ret_of ((defL _ _).trans hd) (res_t rfl Qv) ⟨rfl, F.bel.trans (H.bel.mono F.size)⟩)))))))
  have hdk : n0.dg ≠ 0 := of_decide_eq_false h
  have hdg' : ∀ j, j < k + 1 → ((cK t M (j + 1)).nd (fgN bd)).dg ≠ 0 := fun j hj => by
   by_cases e : j = k
   ·rw [e, ← en0]; exact hdk
   ·exact hdg j (by omega)
  refine c_fin ?_
  refine c_rs ?_
  repeat first | refine qa ?_ | refine l_nx ?_
  refine c_rs ?_
  iterate 2 refine qa ?_
  refine qg (run_ixSC _ _ _ _ rfl SlcK.out SizK.out Qv Qv rfl kr _) ?_
  refine qg (run_lodX OneK.out (at_below hlod3 H.bel) rfl Qv) ?_
  iterate 2 refine qa ?_
  refine l_nx ?_
  refine c_block ?_
  refine c_loop (fun r A W' => ∃ j : Nat, j ≤ u.1.length ∧ u.1.length - j ≤ r ∧ A.tmps.size = 76 ∧ A.defers = [] ∧ A.eval (.tmp 2) = .int .i64 bd ∧ A.eval (.tmp 9) = .slice (some ⟨g2, 0, none⟩) RL.length q2 ∧ A.eval (.tmp 11) = .int .i64 ((k : Int) + 1) ∧ A.eval (.tmp 44) = .int .i64 (RL.length : Int) ∧ A.eval (.tmp 45) = .int .i64 (k : Int) ∧ A.eval (.tmp 61) = .slice (some ⟨g3, 0, none⟩) u.1.length u.2.2 ∧ A.eval (.tmp 62) = .int .i64 (u.1.length : Int) ∧ A.eval (.tmp 63) = .int .i64 (j : Int) ∧ Cx w5 W' []) u.1.length
   ⟨0, Nat.zero_le _, by omega, (szL _ _).trans hs, (defL _ _).trans hd, Qv, Qv, Qv, Qv, Qv, Qv, Qv, Qv, H⟩ (fun r2 B2 W2 hI2 => ?_)
  clear b2 b9 b11 b44 b45 hs hd H
  obtain ⟨j, hj, hjr, hs, hd, b2, b9, b11, b44, b45, b61, b62, b63, H⟩ := hI2
  refine c_rs (m_start ?_)
  repeat first | refine qa ?_ | refine l_nx ?_ | refine c_nx ?_
  refine q_if (fun h => ?_) (fun h => ?_)
  ·have jn : j < u.1.length := by have := of_decide_eq_true h; omega
   have hul : u.1.length ≤ 4 := by rcases run_len hin hone hcc hbd hu with ⟨_, e⟩ | ⟨_, e⟩ <;> omega
   have hjn := List.getElem?_eq_getElem jn
   obtain ⟨nd, en⟩ : ∃ nd, nd = u.1[j] := ⟨_, rfl⟩
   rw [← en] at hjn
   obtain ⟨i, i4, gi, e1, hid, hfr⟩ := frR_mem (t := t) hin hone hcc (by rw [← hu]; exact List.mem_of_getElem? hjn)
   have gib : i ≠ b := fun e => gi (by rw [e, ebd])
   have hsil := run_silent (t := t) hb4 hin (by rw [← ebd]; exact hone) hlies i4 gib (k + 1) (by omega) (fun j' hj' => by
    rw [(run_twn hin hone (show j' < M.length by omega) i4 (fgN_ok bd).1 gi (fgN_ok bd).2).dg]
    exact hdg' j' hj')
   rw [← e1] at hsil
   have hI : nd.rl.I b = decide ((k : Int) + 1 < 2) := by
    by_cases ek : k = 0
    ·rw [(hsil.2.1 (by omega)).1, decide_eq_true (by omega)]
    ·rw [hsil.2.2 (by omega), decide_eq_false (by omega)]
   have hcj := hcell3 j nd hjn
   refine c_fin ?_
   refine c_nx (c_block ?_)
   refine c_rs ?_
   refine qg (run_ixSC _ _ _ _ rfl SlcK.out SizK.out Qv Qv rfl jn _) ?_
   refine qg (run_lodCs (g := rpF nd) ManyK.out (fun j hj => at_below (hcj j hj) H.bel) rfl Qv) ?_
   refine q_al H ?_
   intro w6 H z6
   refine q_sp0 H stP_whole (rpP_one _ _) ?_
   intro w7 H z7
   refine l_nx ?_
   refine c_rs ?_
   iterate 2 refine qa ?_
   refine qg (run_ixG (i := b) _ _ _ _ rfl ArrK.out SizK.out Qv Qv ebd hb4 _) ?_
   refine qg (run_lod1 _ _ rfl OneK.out Qv H.v0 (by omega) (rpF_in nd hb4)) ?_
   iterate 2 refine qa ?_
   refine qg (run_neqTT _ _ rfl Qv Qv hI _) ?_
   refine l_nx ?_
   refine q_no rfl (c_finB ?_)
   refine c_region ?_
   repeat refine qa ?_
   exact l_round ⟨u.1.length - (j + 1), by omega, j + 1, by omega, by omega, (szL _ _).trans hs, (defL _ _).trans hd, Qv, Qv, Qv, Qv, Qv, Qv, Qv, Eq.trans Qv (by rw [Int.natCast_add]; rfl), H.tl⟩
  ·refine c_exit (x_out2 ?_)
   refine c_region ?_
   repeat refine qa ?_
   exact l_round ⟨RL.length - (k + 1), by omega, k + 1, by omega, by omega, hdg', (szL _ _).trans hs, (defL _ _).trans hd, Qv, Qv, Eq.trans Qv (by rw [Int.natCast_add]; rfl), Qv, Eq.trans Qv (by rw [Int.natCast_add]; rfl), H⟩
 ·refine c_exit (x_out ?_)
  refine c_rs ?_
  repeat first | refine qa ?_ | refine l_nx ?_
  exact c_ret (ret_of ((defL _ _).trans hd) (res_t rfl Qv) ⟨rfl, F.bel.trans (H.bel.mono F.size)⟩)
end Go.Proofs.YtdhblehhgpdpdacGreat
