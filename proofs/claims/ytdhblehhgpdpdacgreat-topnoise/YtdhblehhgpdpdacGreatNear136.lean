import Derived.Test.YtdhblehhgpdpdacGreatNear134
import Derived.Test.YtdhblehhgpdpdacGreatNear113
import Derived.Test.YtdhblehhgpdpdacGreatNear125
import Derived.Test.YtdhblehhgpdpdacGreatMemOK
import Derived.Test.YtdhblehhgpdpdacGreatNear50
namespace Go.Proofs.YtdhblehhgpdpdacGreat
open Go.ChangeShapes Go.WideShapes Go.ChangeAt Go.RowKit Go.Joins
set_option maxRecDepth 100000
instance : Inhabited Lj := ⟨⟨⟨0, 0, 0, fun _ => 0⟩, none, 0⟩⟩
instance : Inhabited Li := ⟨⟨fun _ _ => 0, 0, [], none, 0⟩⟩
theorem cellsLyN : Tryz.prog.cellsOf 35 = 3 := by kernel_rfl
theorem bytesLyN : Tryz.prog.bytesOf 35 = 40 := by kernel_rfl
theorem cellsIpN : Tryz.prog.cellsOf 31 = 14 := by kernel_rfl
theorem bytesIpN : Tryz.prog.bytesOf 31 = 128 := by kernel_rfl
theorem cellsU8N : Tryz.prog.cellsOf 33 = 1 := by kernel_rfl
theorem cellsLsN : Tryz.prog.cellsOf 29 = 1 := by kernel_rfl
section
variable {H : Type} {enc : TypeId × Value → H} {w : World} {base : Nat} {held : Bool}
theorem open_many {t e : TypeId} {s bytes : Nat} {α : Type} [Inhabited α] (F : α → Nat → Value) (R : α → Prop) (ht : Tryz.prog.underlying t = some (.slice e)) (hce : Tryz.prog.cellsOf e = s) (hbe : Tryz.prog.bytesOf e = bytes) (hs : 0 < s)
  (op : ∀ fuel cs x, DataW.trod enc Tryz.prog w base (fun _ => true) held fuel e cs = some x → (∀ n ∈ x.1.weights Tryz.prog e, n ≤ reachBytes) → ∃ c, cs.length = s ∧ (∀ j, j < s → cs[j]? = some (F c j)) ∧ R c)
  {fuel : Nat} {v : Value} {x : DataW H × List MemPlace} (h : DataW.trod enc Tryz.prog w base (fun _ => true) held fuel t [v] = some x) (hsz : ∀ n ∈ x.1.weights Tryz.prog t, n ≤ reachBytes) :
  ∃ (mo : Option Addr) (mc : Nat) (L : List α), v = .slice mo L.length mc ∧ RdS F s w mo L ∧ (∀ c, c ∈ L → R c) ∧ L.length * bytes ≤ reachBytes ∧ L.length ≤ mc := by
 rcases Go.Deep.open_slice ht h with ⟨hcs, _⟩ | ⟨a, len, c, m, n, D, Pl, hcs, _, hl, hm, hmm, ex, hx⟩
 ·simp at hcs
  exact ⟨none, 0, [], hcs, fun h => absurd h (by simp), fun _ h => absurd h (by simp), by show 0 * _ ≤ _; omega, Nat.le_refl _⟩
 ·simp at hcs
  subst hcs
  simp only [if_true] at hmm
  subst hmm
  have ex1 : x.1 = .slice ((List.range len).map D) ((List.range (m - len)).map fun j => D (len + j)) := congrArg Prod.fst ex
  have hw : ∀ i, i < len → ∀ k ∈ (D i).weights Tryz.prog e, k ≤ reachBytes := fun i hi k hk => hsz k (by
   rw [ex1]
   simp only [DataW.weights, ht]
   exact List.mem_cons_of_mem _ (List.mem_append.2 (Or.inl (weightsAll_memN (List.mem_map.2 ⟨i, List.mem_range.2 hi, rfl⟩) k hk))))
  have hb : m * bytes ≤ reachBytes := hsz _ (by
   rw [ex1]
   simp only [DataW.weights, ht, hbe]
   refine List.mem_cons.2 (Or.inl ?_)
   rw [List.length_map, List.length_map, List.length_range, List.length_range]
   congr 1
   omega)
  obtain ⟨G, hG⟩ := Go.Deep.choose_lt (α := α) (n := len) (p := fun i c => (∀ k, k < s → w.cell? ((a.add (i * s)).add k) = some (F c k)) ∧ R c) (fun i hi => by
   obtain ⟨cs', h1, h2⟩ := hx i (by omega)
   rw [hce] at h1
   obtain ⟨cc, e, h3, h4⟩ := op _ _ _ h2 (hw i hi)
   refine ⟨cc, fun k hk => ?_, h4⟩
   obtain ⟨_, _, hcc⟩ := World.cells?_some h1
   rw [hcc k hk, h3 k hk])
  have el : ((List.range len).map G).length = len := by simp
  have hat : ∀ i c, ((List.range len).map G)[i]? = some c → i < len ∧ c = G i := fun i c hi => by
   have hlt : i < len := by have := (List.getElem?_eq_some_iff.1 hi).1; rw [el] at this; exact this
   rw [List.getElem?_map, List.getElem?_range hlt] at hi
   exact ⟨hlt, (Option.some.inj hi).symm⟩
  refine ⟨some a, m, (List.range len).map G, by rw [el], fun hl0 => ?_, fun c hc => ?_, by rw [el]; exact Nat.le_trans (Nat.mul_le_mul_right _ hl) hb, by rw [el]; exact hl⟩
  ·rw [el] at hl0
   obtain ⟨b, o, spot⟩ := a
   have hn : spot = none := by
    have h0 : w.cell? (((⟨b, o, spot⟩ : Addr).add (0 * s)).add 0) = some (F (G 0) 0) := (hG 0 hl0).1 0 hs
    simpa [Addr.add] using World.cell?_spot h0
   subst hn
   refine ⟨b, o, rfl, fun i c hi k hk => ?_⟩
   obtain ⟨hlt, rfl⟩ := hat i c hi
   have := (hG i hlt).1 k hk
   rw [Addr.add_lit, Addr.add_lit] at this
   exact this
  ·obtain ⟨i, hi⟩ := List.getElem?_of_mem hc
   obtain ⟨hlt, rfl⟩ := hat i c hi
   exact (hG i hlt).2
theorem open_ljC (fuel : Nat) (cs : List Value) (x : DataW H × List MemPlace) (h : DataW.trod enc Tryz.prog w base (fun _ => true) held fuel 35 cs = some x) (hsz : ∀ n ∈ x.1.weights Tryz.prog 35, n ≤ reachBytes) :
  ∃ c : Lj, cs.length = 3 ∧ (∀ j, j < 3 → cs[j]? = some (ljF c j)) ∧ LbRd w c := by
 obtain ⟨xs, n, _, ex, hl, hlen, hf⟩ := DataW.trod_struct Tryz.underlying35 h
 rw [cellsLyN] at hl
 match cs, hl with
 | [c0, c1, c2], _ =>
  match xs, hlen with
  | [y0, y1, y2], _ =>
   have g0 : DataW.trod enc Tryz.prog w base (fun _ => true) held n 3 (List.take (Tryz.prog.cellsOf 3) [c0, c1, c2]) = some y0 := hf 0 _ rfl
   have g1 : DataW.trod enc Tryz.prog w base (fun _ => true) held n 3 (List.take (Tryz.prog.cellsOf 3) [c1, c2]) = some y1 := hf 1 _ rfl
   have g2 : DataW.trod enc Tryz.prog w base (fun _ => true) held n 33 (List.take (Tryz.prog.cellsOf 33) [c2]) = some y2 := hf 2 _ rfl
   rw [cellsIntN] at g0 g1
   rw [cellsU8N] at g2
   obtain ⟨a0, q0, _, w0⟩ := DataW.trod_int Tryz.underlying3 (show DataW.trod enc Tryz.prog w base (fun _ => true) held n 3 [c0] = some y0 from g0)
   obtain ⟨a1, q1, _, w1⟩ := DataW.trod_int Tryz.underlying3 (show DataW.trod enc Tryz.prog w base (fun _ => true) held n 3 [c1] = some y1 from g1)
   simp at q0 q1
   subst q0 q1
   have g2' : DataW.trod enc Tryz.prog w base (fun _ => true) held n 33 [c2] = some y2 := g2
   obtain ⟨ao, len, cap, g, rfl, ha⟩ := open_bytes g2' (fun k hk => hsz k (by
    rw [ex]
    simp only [DataW.weights, Tryz.underlying35, List.map, DataW.weightsEach]
    simp only [List.mem_append]
    exact Or.inr (Or.inr (Or.inl hk))))
   refine ⟨⟨⟨a0, a1, len, g⟩, ao, cap⟩, rfl, fun j hj => ?_, ha.1, ha.2.2.2, ha.2.1, ha.2.2.1⟩
   match j, hj with
   | 0, _ => rfl
   | 1, _ => rfl
   | 2, _ => rfl
theorem open_liC (fuel : Nat) (cs : List Value) (x : DataW H × List MemPlace) (h : DataW.trod enc Tryz.prog w base (fun _ => true) held fuel 31 cs = some x) (hsz : ∀ n ∈ x.1.weights Tryz.prog 31, n ≤ reachBytes) :
  ∃ c : Li, cs.length = 14 ∧ (∀ j, j < 14 → cs[j]? = some (inpF c j)) ∧ LiOK w c := by
 obtain ⟨xs, m, _, ex, hl, hlen, hx⟩ := DataW.trod_struct Tryz.underlying31 h
 have hl : cs.length = 14 := hl.trans cellsIpN
 have hlen : xs.length = 3 := hlen
 have p0 := flat_part (n := 12) Tryz.underlying31 (i := 0) rfl flat_i43 h
 have p1 := flat_part (n := 1) Tryz.underlying31 (i := 1) rfl flat_int h
 have h2 := hx 2 _ rfl
 rw [List.getElem?_eq_getElem (by omega)] at h2
 obtain ⟨y, ey⟩ : ∃ y, y = xs[2] := ⟨_, rfl⟩
 rw [← ey] at h2
 have h2' : DataW.trod enc Tryz.prog w base (fun _ => true) held m 29 ((cs.drop 13).take (Tryz.prog.cellsOf 29)) = some y := h2
 rw [cellsLsN] at h2'
 obtain ⟨c0, ec⟩ : ∃ c0, (cs.drop 13).take 1 = [c0] := by
  have : ((cs.drop 13).take 1).length = 1 := by rw [List.length_take, List.length_drop, hl]; rfl
  match hq : (cs.drop 13).take 1, this with
  | [c0], _ => exact ⟨c0, rfl⟩
 rw [ec] at h2'
 have hg : cs[13]? = some c0 := by rw [show (13 : Nat) = 13 + 0 from rfl, ← drop_take_get (n := 1) (by omega), ec]; rfl
 obtain ⟨lo, lc, LL, rfl, hr, hR, hb, hc⟩ := open_many ljF (LbRd w) Tryz.underlying29 cellsLyN bytesLyN (by omega) open_ljC h2' (fun n hn => hsz n (by
  rw [ex]
  simp only [DataW.weights, Tryz.underlying31]
  exact DataW.weights_mem_each (j := 2) (t := 29) (d := y.1) rfl (by rw [List.getElem?_map, List.getElem?_eq_getElem (by omega), ← ey]; rfl) n hn))
 have hk : ∀ j, j < 13 → CellK false (cs.getD j (.int .i64 0)) := fun j hj => by
  by_cases r0 : j < 12
  ·exact cells_of (o := 0) (K2 := fun _ => false) p0 (by omega) (by omega) (by omega) rfl
  ·exact cells_of (o := 12) (K2 := fun _ => false) p1 (by omega) (by omega) (by omega) rfl
 have hR64 : ∀ j, R64 (vI (cs.getD j (.int .i64 0))) := fun j => by
  by_cases hj : j < 13
  ·exact (hk j hj).R
  by_cases hj2 : j = 13
  ·rw [hj2, List.getD_eq_getElem?_getD, hg]; exact R64_nought
  ·rw [List.getD_eq_getElem?_getD, List.getElem?_eq_none (by omega)]; exact R64_nought
 have hat : ∀ j, j < 14 → cs[j]? = some (cs.getD j (.int .i64 0)) := fun j hj => by rw [List.getD_eq_getElem?_getD, List.getElem?_eq_getElem (by omega)]; rfl
 refine ⟨⟨fun s a => vI (cs.getD (s * 3 + a) (.int .i64 0)), vI (cs.getD 12 (.int .i64 0)), LL, lo, lc⟩, hl, fun j hj => ?_, ⟨⟨fun s a => hR64 _, hR64 _, fun y hy i => ?_⟩, ⟨hr, hR⟩, hc⟩⟩
 ·unfold inpF ipF
  dsimp only
  by_cases r0 : j < 12
  ·rw [if_pos r0, show j / 3 * 3 + j % 3 = j by omega, (hk j (by omega)).i]
   exact hat j hj
  by_cases r1 : j = 12
  ·rw [if_neg r0, if_pos r1, (hk 12 (by omega)).i, r1]
   exact hat 12 (by omega)
  ·rw [if_neg r0, if_neg r1, show j = 13 by omega]
   exact hg
 ·obtain ⟨c, hcm, rfl⟩ := List.mem_map.1 hy
  exact (hR c hcm).2.2.2 i
theorem open_inpsArg {r : Reach} {b0 : Nat} {v : Value} {d : DataW H} {p : List MemPlace} (hv : Value.okWide Tryz.prog w r b0 24 v) (h : DataW.Trod enc Tryz.prog w base (fun _ => true) held 24 v d p) (hsz : ∀ n ∈ d.weights Tryz.prog 24, n ≤ reachBytes) :
  ∃ (mo : Option Addr) (mc : Nat) (L : List Li), v = .slice mo L.length mc ∧ RdS inpF 14 w mo L ∧ (∀ c, c ∈ L → LiOK w c) ∧ L.length * 128 ≤ reachBytes ∧ L.length ≤ mc := by
 obtain ⟨ao, len, cap, rfl⟩ := okWide_slice Tryz.underlying24 hv
 obtain ⟨fuel, hf⟩ := h
 have hf' : DataW.trod enc Tryz.prog w base (fun _ => true) held fuel 24 [.slice ao len cap] = some (d, p) := hf
 exact open_many inpF (LiOK w) Tryz.underlying24 cellsIpN bytesIpN (by omega) open_liC hf' hsz
end
end Go.Proofs.YtdhblehhgpdpdacGreat
namespace Go.Proofs.YtdhblehhgpdpdacGreat
open Go.RowKit
def RlE (r s : Rl) : Prop := ∀ j, j < 4 → r.I j = s.I j ∧ r.M j = s.M j ∧ r.J j = s.J j
theorem RlE.symm {r s : Rl} (h : RlE r s) : RlE s r := fun j hj => ⟨(h j hj).1.symm, (h j hj).2.1.symm, (h j hj).2.2.symm⟩
theorem RlE.trans {r s t : Rl} (h : RlE r s) (h' : RlE s t) : RlE r t := fun j hj => ⟨(h j hj).1.trans (h' j hj).1, (h j hj).2.1.trans (h' j hj).2.1, (h j hj).2.2.trans (h' j hj).2.2⟩
theorem RlE.refl (r : Rl) : RlE r r := fun _ _ => ⟨rfl, rfl, rfl⟩
theorem insL_congr {b b' : Nat → Bool} {f f' : Nat → Int} : ∀ {k : Nat}, (∀ i, i < k → b i = b' i ∧ f i = f' i) → insL b f k = insL b' f' k
 | 0, _ => rfl
 | k + 1, h => by
  show insL b f k ++ _ = insL b' f' k ++ _
  rw [insL_congr (fun i hi => h i (by omega)), (h k (by omega)).1, (h k (by omega)).2]
theorem ctN8_congr {f g : Nat → Int} : ∀ {k : Nat}, (∀ i, i < k → f i = g i) → ctN8 f k = ctN8 g k
 | 0, _ => rfl
 | k + 1, h => by
  show wrap64 (wrap64 (8 * ctN8 f k) + f k) = wrap64 (wrap64 (8 * ctN8 g k) + g k)
  rw [ctN8_congr (fun i hi => h i (by omega)), h k (by omega)]
theorem pck_congr {ax bx : Nat → St} {r s : Rl} (h : ∀ a, a < 3 → ax a = bx a) (hr : RlE r s) : pck ax r = pck bx s := by
 unfold pck inN
 rw [h 0 (by omega), h 1 (by omega), h 2 (by omega), ctN8_congr (fun i hi => (hr i hi).2.1), ctN8_congr (fun i hi => (hr i hi).2.2), (hr 0 (by omega)).1, (hr 1 (by omega)).1, (hr 2 (by omega)).1, (hr 3 (by omega)).1]
theorem dgN_congr {ax bx : Nat → St} {r s : Rl} (h : ∀ a, a < 3 → ax a = bx a) (hr : RlE r s) : dgN ax r = dgN bx s := by
 have e : pckB ax r = pckB bx s := by
  funext i
  unfold pckB
  rw [pck_congr h hr]
 unfold dgN
 rw [e]
theorem vote_three {v : Nat → Int} {b : Nat → Bool} {D bad : Int} (h : ∀ s : Nat, s < 4 → (s : Int) ≠ bad → v s = D ∧ b s = true) : vtX v b 4 = D ∧ vtS v b D = true ∧ 0 < ti b 4 := by
 have p : ∀ s : Nat, s < 4 → (s : Int) ≠ bad → (if b s = true ∧ v s = D then 1 else 0) = 1 := fun s hs g => if_pos ⟨(h s hs g).2, (h s hs g).1⟩
 have k3 : 3 ≤ vk b v D 4 := by
  have p0 := p 0 (by omega); have p1 := p 1 (by omega); have p2 := p 2 (by omega); have p3 := p 3 (by omega)
  show 3 ≤ (((0 + if b 0 = true ∧ v 0 = D then 1 else 0) + if b 1 = true ∧ v 1 = D then 1 else 0) + if b 2 = true ∧ v 2 = D then 1 else 0) + if b 3 = true ∧ v 3 = D then 1 else 0
  generalize (if b 0 = true ∧ v 0 = D then 1 else 0) = y0 at *
  generalize (if b 1 = true ∧ v 1 = D then 1 else 0) = y1 at *
  generalize (if b 2 = true ∧ v 2 = D then 1 else 0) = y2 at *
  generalize (if b 3 = true ∧ v 3 = D then 1 else 0) = y3 at *
  omega
 have k1 : ∀ u, u ≠ D → vk b v u 4 ≤ 1 := fun u hu => by
  have q : ∀ s : Nat, s < 4 → (s : Int) ≠ bad → (if b s = true ∧ v s = u then 1 else 0) = 0 := fun s hs g => if_neg (by rintro ⟨_, e⟩; exact hu (e.symm.trans (h s hs g).1))
  have l : ∀ s : Nat, (if b s = true ∧ v s = u then 1 else 0) ≤ 1 := fun s => by split <;> omega
  have p0 := q 0 (by omega); have p1 := q 1 (by omega); have p2 := q 2 (by omega); have p3 := q 3 (by omega)
  have l0 := l 0; have l1 := l 1; have l2 := l 2; have l3 := l 3
  show (((0 + if b 0 = true ∧ v 0 = u then 1 else 0) + if b 1 = true ∧ v 1 = u then 1 else 0) + if b 2 = true ∧ v 2 = u then 1 else 0) + (if b 3 = true ∧ v 3 = u then 1 else 0) ≤ 1
  generalize (if b 0 = true ∧ v 0 = u then 1 else 0) = y0 at *
  generalize (if b 1 = true ∧ v 1 = u then 1 else 0) = y1 at *
  generalize (if b 2 = true ∧ v 2 = u then 1 else 0) = y2 at *
  generalize (if b 3 = true ∧ v 3 = u then 1 else 0) = y3 at *
  omega
 have all : ∀ i, vk b v (v i) 4 ≤ vk b v D 4 := fun i => by
  by_cases e : v i = D
  ·rw [e]; exact Nat.le_refl _
  ·have := k1 _ e; omega
 have hV : IsV v b 4 D := by
  by_cases c : b 0 = true ∧ v 0 = D
  ·exact Or.inr ⟨0, by omega, c.1, c.2.symm, fun i _ _ => all i, fun i hi => by omega⟩
  ·have g0 : (0 : Int) = bad := by
    by_cases g : ((0 : Nat) : Int) = bad
    ·exact g
    ·exact absurd ⟨(h 0 (by omega) g).2, (h 0 (by omega) g).1⟩ c
   have h1 := h 1 (by omega) (by omega)
   refine Or.inr ⟨1, by omega, h1.2, h1.1.symm, fun i _ _ => all i, fun i hi hb => ?_⟩
   obtain rfl : i = 0 := by omega
   have : v 0 ≠ D := fun e => c ⟨hb, e⟩
   have := k1 _ this; omega
 have t1 := vk_le_tt b v D 4
 have t2 := ti_le b 4
 refine ⟨(vtX_at hV).symm, ?_, by omega⟩
 unfold vtS
 exact decide_eq_true ⟨by omega, by omega⟩
section
variable {x : Ip} {c : Cl}
theorem n5_us (hE : frE x c = 0) {i : Nat} (hi : i < 4) (g : (i : Int) ≠ x.bad) : (ndK x c 5 i).us = (ndK x c 3 i).us := by rw [jud_at hE hi g, pas_at hE hi g]
theorem n5_ax (hE : frE x c = 0) {i : Nat} (hi : i < 4) (g : (i : Int) ≠ x.bad) : (ndK x c 5 i).ax = (ndK x c 3 i).ax := by rw [jud_at hE hi g, pas_at hE hi g]
theorem n5_dg (hE : frE x c = 0) {i : Nat} (hi : i < 4) (g : (i : Int) ≠ x.bad) : (ndK x c 5 i).dg = (ndK x c 3 i).dg := by rw [jud_at hE hi g, pas_at hE hi g]
theorem n2_rl (hE : frE x c = 0) {i : Nat} (hi : i < 4) (g : (i : Int) ≠ x.bad) : (ndK x c 2 i).rl = (c.nd i).rl := by rw [rel_atC hE hi g, sen_at hE hi g]
theorem n2_ax (hE : frE x c = 0) {i : Nat} (hi : i < 4) (g : (i : Int) ≠ x.bad) : (ndK x c 2 i).ax = (c.nd i).ax := by rw [rel_atC hE hi g, sen_at hE hi g]
theorem n2_tn (hE : frE x c = 0) {i : Nat} (hi : i < 4) (g : (i : Int) ≠ x.bad) : (ndK x c 2 i).tn = (c.nd i).tn := by rw [rel_atC hE hi g, sen_at hE hi g]
theorem n4_rl (hE : frE x c = 0) {i : Nat} (hi : i < 4) (g : (i : Int) ≠ x.bad) : (ndK x c 4 i).rl = (c.nd i).rl := by rw [pas_at hE hi g, dec_at hE hi g]; exact n2_rl hE hi g
theorem us_at (hE : frE x c = 0) {i : Nat} (hi : i < 4) (g : (i : Int) ≠ x.bad) (a : Nat) : (ndK x c 3 i).us a = midL (insL (c.nd i).rl.I (fun s => (ndK x c 3 i).ag s a) 4) := by
 rw [dec_at hE hi g, ← n2_rl hE hi g]; rfl
theorem ax_at (hE : frE x c = 0) {i : Nat} (hi : i < 4) (g : (i : Int) ≠ x.bad) (a : Nat) : (ndK x c 3 i).ax a = stepS ((c.nd i).ax a) (c.nd i).tn ((ndK x c 3 i).us a) := by
 rw [dec_at hE hi g, ← n2_ax hE hi g, ← n2_tn hE hi g]; rfl
theorem dg_at (hE : frE x c = 0) {i : Nat} (hi : i < 4) (g : (i : Int) ≠ x.bad) : (ndK x c 3 i).dg = dgN (ndK x c 3 i).ax (c.nd i).rl := by
 rw [dec_at hE hi g, ← n2_rl hE hi g]; rfl
theorem us_same (hE : frE x c = 0) {i k : Nat} (hi : i < 4) (hk : k < 4) (gi : (i : Int) ≠ x.bad) (gk : (k : Int) ≠ x.bad) (hr : RlE (c.nd i).rl (c.nd k).rl) {a : Nat} (ha : a < 3) : (ndK x c 3 i).us a = (ndK x c 3 k).us a := by
 rw [us_at hE hi gi, us_at hE hk gk, insL_congr fun s hs => ⟨(hr s hs).1, ag_same hE hi hk hs gi gk ha⟩]
theorem ax_same (hE : frE x c = 0) {i k : Nat} (hi : i < 4) (hk : k < 4) (gi : (i : Int) ≠ x.bad) (gk : (k : Int) ≠ x.bad) (ht : (c.nd i).tn = (c.nd k).tn) (ha : ∀ a, a < 3 → (c.nd i).ax a = (c.nd k).ax a) (hr : RlE (c.nd i).rl (c.nd k).rl) {a : Nat} (h3 : a < 3) : (ndK x c 3 i).ax a = (ndK x c 3 k).ax a := by
 rw [ax_at hE hi gi, ax_at hE hk gk, us_same hE hi hk gi gk hr h3, ht, ha a h3]
theorem dg_same (hE : frE x c = 0) {i k : Nat} (hi : i < 4) (hk : k < 4) (gi : (i : Int) ≠ x.bad) (gk : (k : Int) ≠ x.bad) (ht : (c.nd i).tn = (c.nd k).tn) (ha : ∀ a, a < 3 → (c.nd i).ax a = (c.nd k).ax a) (hr : RlE (c.nd i).rl (c.nd k).rl) : (ndK x c 3 i).dg = (ndK x c 3 k).dg := by
 rw [dg_at hE hi gi, dg_at hE hk gk, dgN_congr (fun a h3 => ax_same hE hi hk gi gk ht ha hr h3) hr]
theorem jud_three (hE : frE x c = 0) {i : Nat} {D bad : Int} (hi : i < 4) (gi : (i : Int) ≠ x.bad) (h : ∀ s : Nat, s < 4 → (s : Int) ≠ bad → vtK x c i s = D ∧ (c.nd i).rl.I s = true) :
  (ndK x c 5 i).vX = D ∧ (ndK x c 5 i).vS = true ∧ (∀ s, judA (ndK x c 4 i) (bxK x c 4 i) s = decide (vtK x c i s = D)) := by
 obtain ⟨h1, h2, h3⟩ := vote_three (v := vtK x c i) h
 have e : judX (ndK x c 4 i) (bxK x c 4 i) = D := by
  unfold judX; rw [n4_rl hE hi gi]; exact h1
 refine ⟨?_, ?_, fun s => ?_⟩
 ·rw [jud_at hE hi gi]; exact e
 ·rw [jud_at hE hi gi]
  show judS _ _ = true
  unfold judS; rw [e, n4_rl hE hi gi]; exact h2
 ·unfold judA vtA
  rw [e, n4_rl hE hi gi]
  exact decide_eq_decide.2 ⟨fun q => q.2, fun q => ⟨h3, q⟩⟩
theorem frN_still (hE : frE x c = 0) {i : Nat} (hi : i < 4) (gi : (i : Int) ≠ x.bad) (h : (ndK x c 5 i).vX = (ndK x c 5 i).dg) : frN x c i = ndK x c 5 i := by
 unfold frN
 rw [if_neg gi]
 show cloN (ndK x c 5 i) (bxK x c 5 i) = _
 unfold cloN cloV
 rw [if_neg (by rw [id5 hE hi gi, noN_at hi]; decide), if_neg (fun q => q.2 h)]
end
structure Inv (t : Tn) (bad : Int) (c : Cl) : Prop where
 id : ∀ i, i < 4 → (c.nd i).id = (i : Nat)
 tn : ∀ i, i < 4 → (c.nd i).tn = t
 ax : ∀ i k : Nat, i < 4 → k < 4 → (i : Int) ≠ bad → (k : Int) ≠ bad → ∀ a, a < 3 → (c.nd i).ax a = (c.nd k).ax a
 rl : ∀ i k : Nat, i < 4 → k < 4 → (i : Int) ≠ bad → (k : Int) ≠ bad → RlE (c.nd i).rl (c.nd k).rl
 gd : ∀ i : Nat, i < 4 → (i : Int) ≠ bad → gdA (c.nd i).rl = true
 on : ∀ i s : Nat, i < 4 → s < 4 → (i : Int) ≠ bad → (s : Int) ≠ bad → (c.nd i).rl.I s = true ∧ (c.nd i).rl.M s = 0
theorem begN_at (t : Tn) {i : Nat} (hi : i < 4) : begN (i : Nat) t = { zeroN with id := (i : Nat), tn := t, ax := fun _ => St.beg0, rl := beginR } := by
 unfold begN; rw [if_neg (by rw [noN_at hi]; decide)]
theorem begC_inv (t : Tn) (bad : Int) : Inv t bad (begC t) where
 id i hi := by show (begN (i : Nat) t).id = _; rw [begN_at t hi]
 tn i hi := by show (begN (i : Nat) t).tn = _; rw [begN_at t hi]
 ax i k hi hk _ _ a _ := by show (begN (i : Nat) t).ax a = (begN (k : Nat) t).ax a; rw [begN_at t hi, begN_at t hk]
 rl i k hi hk _ _ := by show RlE (begN (i : Nat) t).rl (begN (k : Nat) t).rl; rw [begN_at t hi, begN_at t hk]; exact RlE.refl _
 gd i hi _ := by show gdA (begN (i : Nat) t).rl = true; rw [begN_at t hi]; rfl
 on i s hi _ _ _ := by show (begN (i : Nat) t).rl.I s = true ∧ (begN (i : Nat) t).rl.M s = 0; rw [begN_at t hi]; exact ⟨rfl, rfl⟩
section
variable {t : Tn} {bad : Int} {x : Ip} {c : Cl}
theorem dg_all (h : Inv t bad c) (hb : x.bad = bad) (hE : frE x c = 0) {i k : Nat} (hi : i < 4) (hk : k < 4) (gi : (i : Int) ≠ bad) (gk : (k : Int) ≠ bad) : (ndK x c 3 i).dg = (ndK x c 3 k).dg :=
 dg_same hE hi hk (by rw [hb]; exact gi) (by rw [hb]; exact gk) ((h.tn i hi).trans (h.tn k hk).symm) (h.ax i k hi hk gi gk) (h.rl i k hi hk gi gk)
theorem vt_all (h : Inv t bad c) (hb : x.bad = bad) (hE : frE x c = 0) {i : Nat} (hi : i < 4) (gi : (i : Int) ≠ bad) : ∀ s : Nat, s < 4 → (s : Int) ≠ bad → vtK x c i s = (ndK x c 3 i).dg ∧ (c.nd i).rl.I s = true := fun s hs gs =>
 ⟨(vt_good hE hi hs (by rw [hb]; exact gi) (by rw [hb]; exact gs)).trans (dg_all h hb hE hs hi gs gi), (h.on i s hi hs gi gs).1⟩
theorem vX_good (h : Inv t bad c) (hb : x.bad = bad) (hE : frE x c = 0) {i : Nat} (hi : i < 4) (gi : (i : Int) ≠ bad) : (ndK x c 5 i).vX = (ndK x c 5 i).dg := by
 rw [n5_dg hE hi (by rw [hb]; exact gi)]
 exact (jud_three hE hi (by rw [hb]; exact gi) (vt_all h hb hE hi gi)).1
theorem fr_good (h : Inv t bad c) (hb : x.bad = bad) (hE : frE x c = 0) {i : Nat} (hi : i < 4) (gi : (i : Int) ≠ bad) : frN x c i = ndK x c 5 i := frN_still hE hi (by rw [hb]; exact gi) (vX_good h hb hE hi gi)
end
end Go.Proofs.YtdhblehhgpdpdacGreat
namespace Go.Proofs.YtdhblehhgpdpdacGreat
open Go.RowKit
theorem midL_in {f : Nat → Int} {n : Nat} {lo hi : Int} (h1 : 1 ≤ n) (h2 : n ≤ 64) (hl : cl f n lo ≤ (n - 1) / 3) (hh : n - 1 - (n - 1) / 3 < cl f n hi + ce f n hi) : lo ≤ midL (lsN f n) ∧ midL (lsN f n) ≤ hi := by
 obtain ⟨m, hm⟩ := mid_ex f n h1
 rw [← midL_at h1 h2 hm]
 obtain ⟨a, b, ha, hb, rfl⟩ := hm
 have k1 := rk_ge ha hl
 have k2 := rk_le hb hh
 have k3 := rk_mono ha hb (by omega)
 omega
def skI (b i : Nat) : Nat := if i < b then i else i + 1
theorem insL_all {b : Nat → Bool} {f : Nat → Int} (h : ∀ s, s < 4 → b s = true) : insL b f 4 = lsN f 4 := by
 show (((([] ++ _) ++ _) ++ _) ++ _) = _
 rw [h 0 (by omega), h 1 (by omega), h 2 (by omega), h 3 (by omega)]
 rfl
theorem insL_but {b : Nat → Bool} {f : Nat → Int} {q : Nat} (hq : q < 4) (h0 : b q = false) (h : ∀ s, s < 4 → s ≠ q → b s = true) : insL b f 4 = lsN (fun i => f (skI q i)) 3 := by
 show (((([] ++ _) ++ _) ++ _) ++ _) = _
 rcases four hq with rfl | rfl | rfl | rfl
 ·rw [h0, h 1 (by omega) (by omega), h 2 (by omega) (by omega), h 3 (by omega) (by omega)]; rfl
 ·rw [h0, h 0 (by omega) (by omega), h 2 (by omega) (by omega), h 3 (by omega) (by omega)]; rfl
 ·rw [h0, h 0 (by omega) (by omega), h 1 (by omega) (by omega), h 3 (by omega) (by omega)]; rfl
 ·rw [h0, h 0 (by omega) (by omega), h 1 (by omega) (by omega), h 2 (by omega) (by omega)]; rfl
theorem ind_if (p : Prop) [Decidable p] : (p → ind p = 1) ∧ (¬ p → ind p = 0) := ⟨ind_yes, ind_no⟩
theorem mid_good {b : Nat → Bool} {f : Nat → Int} {bad lo hi : Int} (h : ∀ s : Nat, s < 4 → (s : Int) ≠ bad → b s = true ∧ lo ≤ f s ∧ f s ≤ hi) : lo ≤ midL (insL b f 4) ∧ midL (insL b f 4) ≤ hi := by
 by_cases ha : ∀ s, s < 4 → b s = true
 ·rw [insL_all ha]
  have h0 := h 0 (by omega); have h1 := h 1 (by omega); have h2 := h 2 (by omega); have h3 := h 3 (by omega)
  refine midL_in (by omega) (by omega) ?_ ?_
  ·rw [cl4]
   have i0 := ind_if (f 0 < lo); have i1 := ind_if (f 1 < lo); have i2 := ind_if (f 2 < lo); have i3 := ind_if (f 3 < lo)
   have j0 := ind_le (f 0 < lo); have j1 := ind_le (f 1 < lo); have j2 := ind_le (f 2 < lo); have j3 := ind_le (f 3 < lo)
   generalize ind (f 0 < lo) = y0 at *
   generalize ind (f 1 < lo) = y1 at *
   generalize ind (f 2 < lo) = y2 at *
   generalize ind (f 3 < lo) = y3 at *
   by_cases c0 : ((0 : Nat) : Int) = bad
   ·have := i1.2 (by have := (h1 (by omega)).2; omega); have := i2.2 (by have := (h2 (by omega)).2; omega); have := i3.2 (by have := (h3 (by omega)).2; omega); omega
   ·have := i0.2 (by have := (h0 c0).2; omega)
    by_cases c1 : ((1 : Nat) : Int) = bad
    ·have := i2.2 (by have := (h2 (by omega)).2; omega); have := i3.2 (by have := (h3 (by omega)).2; omega); omega
    ·have := i1.2 (by have := (h1 c1).2; omega)
     by_cases c2 : ((2 : Nat) : Int) = bad
     ·have := i3.2 (by have := (h3 (by omega)).2; omega); omega
     ·have := i2.2 (by have := (h2 c2).2; omega); omega
  ·rw [cle4]
   have i0 := ind_if (f 0 ≤ hi); have i1 := ind_if (f 1 ≤ hi); have i2 := ind_if (f 2 ≤ hi); have i3 := ind_if (f 3 ≤ hi)
   generalize ind (f 0 ≤ hi) = y0 at *
   generalize ind (f 1 ≤ hi) = y1 at *
   generalize ind (f 2 ≤ hi) = y2 at *
   generalize ind (f 3 ≤ hi) = y3 at *
   by_cases c0 : ((0 : Nat) : Int) = bad
   ·have := i1.1 (h1 (by omega)).2.2; have := i2.1 (h2 (by omega)).2.2; have := i3.1 (h3 (by omega)).2.2; omega
   ·have := i0.1 (h0 c0).2.2
    by_cases c1 : ((1 : Nat) : Int) = bad
    ·have := i2.1 (h2 (by omega)).2.2; have := i3.1 (h3 (by omega)).2.2; omega
    ·have := i1.1 (h1 c1).2.2
     by_cases c2 : ((2 : Nat) : Int) = bad
     ·have := i3.1 (h3 (by omega)).2.2; omega
     ·have := i2.1 (h2 c2).2.2; omega
 ·obtain ⟨q, hq, h0⟩ : ∃ q, q < 4 ∧ b q = false := by
   by_cases b0 : b 0 = true
   ·by_cases b1 : b 1 = true
    ·by_cases b2 : b 2 = true
     ·by_cases b3 : b 3 = true
      ·exact absurd (fun s hs => by rcases four hs with rfl | rfl | rfl | rfl <;> assumption) ha
      ·exact ⟨3, by omega, by simpa using b3⟩
     ·exact ⟨2, by omega, by simpa using b2⟩
    ·exact ⟨1, by omega, by simpa using b1⟩
   ·exact ⟨0, by omega, by simpa using b0⟩
  have hqb : (q : Int) = bad := by
   by_cases e : (q : Int) = bad
   ·exact e
   ·rw [(h q hq e).1] at h0; cases h0
  rw [insL_but hq h0 (fun s hs hn => (h s hs (by omega)).1)]
  obtain ⟨m, hm⟩ := mid_ex (fun i => f (skI q i)) 3 (by omega)
  rw [← midL_at (by omega) (by omega) hm]
  refine mid_within hm fun i hi => ?_
  have : skI q i < 4 ∧ skI q i ≠ q := by unfold skI; split <;> omega
  exact (h _ this.1 (by omega)).2
section
variable {t : Tn} {bad : Int} {x : Ip} {c : Cl}
theorem us_within (h : Inv t bad c) (hb : x.bad = bad) (hE : frE x c = 0) {i a : Nat} (hi : i < 4) (gi : (i : Int) ≠ bad) (ha : a < 3) {lo hi' : Int} (hr : ∀ s : Nat, s < 4 → (s : Int) ≠ bad → lo ≤ x.rd s a ∧ x.rd s a ≤ hi') : lo ≤ (frN x c i).us a ∧ (frN x c i).us a ≤ hi' := by
 have gi' : (i : Int) ≠ x.bad := by rw [hb]; exact gi
 rw [fr_good h hb hE hi gi, n5_us hE hi gi', us_at hE hi gi']
 refine mid_good (bad := bad) fun s hs gs => ?_
 rw [ag_good hE hi hs gi' (by rw [hb]; exact gs) ha]
 exact ⟨(h.on i s hi hs gi gs).1, hr s hs gs⟩
theorem ax_follow (h : Inv t bad c) (hb : x.bad = bad) (hE : frE x c = 0) {i a : Nat} (hi : i < 4) (gi : (i : Int) ≠ bad) : (frN x c i).ax a = stepS ((c.nd i).ax a) t ((frN x c i).us a) := by
 have gi' : (i : Int) ≠ x.bad := by rw [hb]; exact gi
 rw [fr_good h hb hE hi gi, n5_ax hE hi gi', n5_us hE hi gi', ax_at hE hi gi', h.tn i hi]
end
section
variable {x : Ip} {c : Cl}
end
section
variable {n : Nd} {l m : List Ms}
theorem relN_hear (h : ∀ s, frst n l s 1 3 = frst n m s 1 3) : relN n l = relN n m ∧ relM n l = relM n m := by
 have e : relD n l = relD n m := by
  funext s a
  unfold relD
  rw [h s]
 unfold relN relM
 rw [e]
 exact ⟨rfl, rfl⟩
theorem tkn_hear {many : Nat} (h : ∀ s, frst n l s 2 many = frst n m s 2 many) (s : Nat) (v : Int) (k : Nat) : tkn n l s v k many = tkn n m s v k many := by
 unfold tkn tldN
 rw [h, h]
theorem decN_hear (h : ∀ s, frst n l s 2 12 = frst n m s 2 12) : decN n l = decN n m ∧ decM n l = decM n m := by
 have e : decG n l = decG n m := by
  funext s a
  exact tkn_hear h _ _ _
 have e2 : decU n l = decU n m := by
  funext a
  unfold decU
  rw [e]
 have e3 : decA n l = decA n m := by
  funext a
  unfold decA
  rw [e2]
 have e4 : decD n l = decD n m := by
  unfold decD
  rw [e3]
 unfold decN decM
 rw [e, e2, e3, e4]
 exact ⟨rfl, rfl⟩
theorem pasN_hear (h : ∀ s, frst n l s 3 1 = frst n m s 3 1) : pasN n l = pasN n m ∧ pasM n l = pasM n m := by
 have e : pasH n l = pasH n m := by
  funext s
  unfold pasH
  rw [h s]
 unfold pasN pasM
 rw [e]
 exact ⟨rfl, rfl⟩
theorem judN_hear (h : ∀ s, frst n l s 2 4 = frst n m s 2 4) : judN n l = judN n m ∧ judM n l = judM n m := by
 have e : judV n l = judV n m := by
  funext s
  exact tkn_hear h _ _ _
 have e1 : judX n l = judX n m := by unfold judX; rw [e]
 have e2 : judA n l = judA n m := by
  funext s
  unfold judA
  rw [e, e1]
 have e3 : judS n l = judS n m := by unfold judS; rw [e, e1]
 have e4 : judR n l = judR n m := by unfold judR; rw [e3, e2]
 unfold judN judM
 rw [e1, e2, e3, e4]
 exact ⟨rfl, rfl⟩
theorem cloN_hear (h : ∀ s, frst n l s 5 24 = frst n m s 5 24) : cloN n l = cloN n m := by
 have e : pairN n l = pairN n m := by
  funext p
  unfold pairN
  rw [h, h]
 unfold cloN cloV
 rw [e]
end
def kdP (k : Nat) : Int := if k = 0 then 1 else if k = 1 then 2 else if k = 2 then 3 else if k = 3 then 2 else 5
def mnP (k : Nat) : Nat := if k = 0 then 3 else if k = 1 then 12 else if k = 2 then 1 else if k = 3 then 4 else 24
theorem phN_hear {k : Nat} {n : Nd} {fr : Int} {rd : Nat → Int} {l m : List Ms} (hk : k < 4) (h : ∀ s, frst n l s (kdP k) (mnP k) = frst n m s (kdP k) (mnP k)) : phN (k + 1) n fr rd l = phN (k + 1) n fr rd m ∧ phM (k + 1) n fr rd l = phM (k + 1) n fr rd m := by
 rcases four hk with rfl | rfl | rfl | rfl
 ·exact relN_hear h
 ·exact decN_hear h
 ·exact pasN_hear h
 ·exact judN_hear h
theorem frst_box {x : Ip} {told : Nat → Ms} {n : Nd} {s wo ph : Nat} {kind : Int} {many : Nat} (hF : ∀ j : Nat, j < 4 → (j : Int) ≠ x.bad → (told j).F = (j : Nat)) (hid : n.id = (wo : Nat)) :
  frst n (bxM x told wo ph 4) s kind many = if s = wo then none else if s < 4 then (if (s : Int) = x.bad then frst n (liM x.bad wo ph x.ly) s kind many else frst n (wrM (told s)) s kind many) else none := by
 by_cases e : s = wo
 ·rw [if_pos e]; exact frst_own (by rw [hid, e])
 ·rw [if_neg e, frst_bx hF e 4 (Nat.le_refl _)]
theorem wk_hear {x y : Ip} {c : Cl} (hE : frE x c = 0) (hE' : frE y c = 0) (hr : y.rd = x.rd) (hb : y.bad = x.bad) (hl : ∀ k i : Nat, k < 5 → i < 4 → (i : Int) ≠ x.bad → ∀ n : Nd, n.id = (i : Nat) → n.fr = c.fr → ∀ s : Nat, (s : Int) = x.bad → frst n (liM x.bad i k y.ly) s (kdP k) (mnP k) = frst n (liM x.bad i k x.ly) s (kdP k) (mnP k)) :
  ∀ k, k ≤ 5 → ∀ i, i < 4 → ndK y c k i = ndK x c k i ∧ (k < 5 → mgK y c k i = mgK x c k i) ∧ (0 < k → (i : Int) ≠ x.bad → ∀ s, frst (ndK x c k i) (bxK y c k i) s (kdP (k - 1)) (mnP (k - 1)) = frst (ndK x c k i) (bxK x c k i) s (kdP (k - 1)) (mnP (k - 1)))
 | 0, _, i, hi => by
  refine ⟨rfl, fun _ => ?_, fun h => absurd h (by omega)⟩
  by_cases g : (i : Int) = x.bad
  ·show (if (i : Int) = y.bad then _ else _) = (if (i : Int) = x.bad then _ else _)
   rw [if_pos g, if_pos (g.trans hb.symm)]
  ·rw [mg0 (by rw [hb]; exact g), mg0 g, hr]
 | k + 1, hk, i, hi => by
  have ih := wk_hear hE hE' hr hb hl k (by omega)
  have hF : ∀ (z : Ip), frE z c = 0 → ∀ j : Nat, j < 4 → (j : Int) ≠ z.bad → (mgK z c k j).F = (j : Nat) := fun z hz j hj gj => by
   have : k = 0 ∨ k = 1 ∨ k = 2 ∨ k = 3 ∨ k = 4 := by omega
   rcases this with rfl | rfl | rfl | rfl | rfl
   ·rw [ms0 hz hj gj]
   ·rw [ms1 hz hj gj]
   ·rw [ms2 hz hj gj]
   ·rw [ms3 hz hj gj]
   ·rw [ms4 hz hj gj]
  have hid : (i : Int) ≠ x.bad → (ndK x c (k + 1) i).id = (i : Nat) ∧ (ndK x c (k + 1) i).fr = c.fr := fun g => by
   have : k = 0 ∨ k = 1 ∨ k = 2 ∨ k = 3 ∨ k = 4 := by omega
   rcases this with rfl | rfl | rfl | rfl | rfl
   ·exact ⟨id1 hE hi g, fr1 hE hi g⟩
   ·exact ⟨id2 hE hi g, fr2 hE hi g⟩
   ·exact ⟨id3 hE hi g, fr3 hE hi g⟩
   ·exact ⟨id4 hE hi g, fr4 hE hi g⟩
   ·exact ⟨id5 hE hi g, fr5 hE hi g⟩
  have hn : ndK y c (k + 1) i = ndK x c (k + 1) i := by
   by_cases g : (i : Int) = x.bad
   ·show (if (i : Int) = y.bad then (wkK y c k).nd i else _) = (if (i : Int) = x.bad then (wkK x c k).nd i else _)
    rw [if_pos g, if_pos (g.trans hb.symm)]; exact (ih i hi).1
   ·rw [ndK_succ (by rw [hb]; exact g), ndK_succ g, (ih i hi).1, hr]
    rcases Nat.eq_zero_or_pos k with rfl | hp
    ·rfl
    ·have := phN_hear (fr := c.fr) (rd := x.rd i) (k := k - 1) (by omega) ((ih i hi).2.2 hp g)
     rw [Nat.sub_add_cancel hp] at this
     exact this.1
  have hbx : (i : Int) ≠ x.bad → ∀ s, frst (ndK x c (k + 1) i) (bxK y c (k + 1) i) s (kdP k) (mnP k) = frst (ndK x c (k + 1) i) (bxK x c (k + 1) i) s (kdP k) (mnP k) := fun g s => by
   rw [bxK_succ, bxK_succ, frst_box (hF y hE') (hid g).1, frst_box (hF x hE) (hid g).1, hb]
   by_cases e : s = i
   ·rw [if_pos e, if_pos e]
   ·rw [if_neg e, if_neg e]
    by_cases e2 : s < 4
    ·rw [if_pos e2, if_pos e2, (ih s e2).2.1 (by omega)]
     by_cases e3 : (s : Int) = x.bad
     ·rw [if_pos e3, if_pos e3]; exact hl k i (by omega) hi g _ (hid g).1 (hid g).2 s e3
     ·rw [if_neg e3, if_neg e3]
    ·rw [if_neg e2, if_neg e2]
  refine ⟨hn, fun h5 => ?_, fun _ g => hbx g⟩
  by_cases g : (i : Int) = x.bad
  ·show (if (i : Int) = y.bad then _ else _) = (if (i : Int) = x.bad then _ else _)
   rw [if_pos g, if_pos (g.trans hb.symm)]
  ·rw [mgK_at (by rw [hb]; exact g), mgK_at g, hn, hr]
   exact (phN_hear (fr := c.fr) (rd := x.rd i) (k := k) (by omega) (hbx g)).2
theorem fr_hear {x y : Ip} {c : Cl} (hE : frE x c = 0) (hE' : frE y c = 0) (hr : y.rd = x.rd) (hb : y.bad = x.bad) (hl : ∀ k i : Nat, k < 5 → i < 4 → (i : Int) ≠ x.bad → ∀ n : Nd, n.id = (i : Nat) → n.fr = c.fr → ∀ s : Nat, (s : Int) = x.bad → frst n (liM x.bad i k y.ly) s (kdP k) (mnP k) = frst n (liM x.bad i k x.ly) s (kdP k) (mnP k)) :
  ∀ i, i < 4 → frN y c i = frN x c i := fun i hi => by
 obtain ⟨h1, _, h3⟩ := wk_hear hE hE' hr hb hl 5 (Nat.le_refl _) i hi
 unfold frN
 by_cases g : (i : Int) = x.bad
 ·rw [if_pos g, if_pos (g.trans hb.symm)]
 ·rw [if_neg g, if_neg (by rw [hb]; exact g)]
  show cloN (ndK y c 5 i) (bxK y c 5 i) = cloN (ndK x c 5 i) (bxK x c 5 i)
  rw [h1]
  exact cloN_hear (h3 (by omega) g)
end Go.Proofs.YtdhblehhgpdpdacGreat
namespace Go.Proofs.YtdhblehhgpdpdacGreat
open Go.RowKit
structure Al (t : Tn) (b : Nat) (q : Nat) (c : Cl) : Prop where
 id : ∀ i, i < 4 → (c.nd i).id = (i : Nat)
 tn : ∀ i, i < 4 → (c.nd i).tn = t
 ax : ∀ i k : Nat, i < 4 → k < 4 → ∀ a, a < 3 → (c.nd i).ax a = (c.nd k).ax a
 rl : ∀ i k : Nat, i < 4 → k < 4 → RlE (c.nd i).rl (c.nd k).rl
 gd : ∀ i : Nat, i < 4 → gdA (c.nd i).rl = true
 on : ∀ i s : Nat, i < 4 → s < 4 → s ≠ b → (c.nd i).rl.I s = true ∧ (c.nd i).rl.M s = 0
 jn : ∀ i, i < 4 → ((c.nd i).rl.I b = true) ∨ (q : Int) ≤ (c.nd i).rl.J b
section
variable {t : Tn} {b : Nat} {x : Ip} {c : Cl}
end
end Go.Proofs.YtdhblehhgpdpdacGreat
namespace Go.Proofs.YtdhblehhgpdpdacGreat
open Go.RowKit
def listI {α : Type} (f : α → It) (L : List α) : It := ⟨fun w => ∀ x, x ∈ L → (f x).p w, fun k => ∃ x, x ∈ L ∧ (f x).foot k, fun h e x hx => (f x).ok (h x hx) (fun k h1 h2 => e k h1 ⟨x, hx, h2⟩), fun h ⟨x, hx, e⟩ => (f x).lt (h x hx) e⟩
theorem list_push {α : Type} {f : α → It} {L : List α} {y : α} {w0 w : World} {l : List It} (H : Cx w0 w (f y :: listI f L :: l)) : Cx w0 w (listI f (L ++ [y]) :: l) := by
 refine H.merge.wk (fun h x hx => ?_) (fun k ⟨x, hx, hk⟩ => ?_)
 ·rcases List.mem_append.1 hx with hx | hx
  ·exact h.2 x hx
  ·simp only [List.mem_cons, List.not_mem_nil, or_false] at hx
   rw [hx]; exact h.1
 ·rcases List.mem_append.1 hx with hx | hx
  ·exact Or.inr ⟨x, hx, hk⟩
  ·simp only [List.mem_cons, List.not_mem_nil, or_false] at hx
   rw [hx] at hk; exact Or.inl hk
theorem Cx.plus {w0 w w' : World} {l m : List It} (H : Cx w0 w l) (G : Cx w w' m) : Cx w0 w' (m ++ l) := by
 have H' := H.call G.bel
 have hs := H.size
 refine ⟨H'.bel, fun x hx => ?_, fun x hx k hk => ?_, List.pairwise_append.2 ⟨G.dis, H.dis, fun x hx y hy k h1 h2 => ?_⟩⟩
 ·rcases List.mem_append.1 hx with hx | hx
  ·exact G.it x hx
  ·exact H'.it x hx
 ·rcases List.mem_append.1 hx with hx | hx
  ·have := G.up x hx k hk; omega
  ·exact H.up x hx k hk
 ·have h3 := G.up x hx k h1
  have h4 := y.lt (H.it y hy) h2
  omega
theorem ownI_base {w0 w : World} {B C : Nat} {t : TypeId} {s : Nat} {v : Value} {n : Nat} {xs : List Value} {l : List It} (H : Cx w0 w (ownI B t s v n xs :: l)) (h : C ≤ B) : Cx w0 w (ownI C t s v n xs :: l) := H.wk (fun h1 => rw_base h1 h) (fun _ h => h)
theorem agI_base {w0 w : World} {B C : Nat} {D : Nat → Nd × Ad} {l : List It} (H : Cx w0 w (agI B D :: l)) (h : C ≤ B) : Cx w0 w (agI C D :: l) := H.wk (fun h1 i hi => rw_base (h1 i hi) h) (fun _ h => h)
def cK (t : Tn) (L : List Li) : Nat → Cl
 | 0 => begC t
 | k + 1 => match L[k]? with | some c => frC c.x (cK t L k) | none => cK t L k
theorem cK_succ {t : Tn} {L : List Li} {k : Nat} {c : Li} (h : L[k]? = some c) : cK t L (k + 1) = frC c.x (cK t L k) := by
 show (match L[k]? with | some c => frC c.x (cK t L k) | none => cK t L k) = _
 rw [h]
theorem cloN_id (n : Nd) (l : List Ms) : (cloN n l).id = n.id := by
 unfold cloN
 split
 ·rfl
 ·split
  ·split <;> rfl
  ·rfl
theorem frN_id {x : Ip} {c : Cl} (hE : frE x c = 0) {i : Nat} (hi : i < 4) : (frN x c i).id = (i : Nat) := by
 unfold frN
 split
 ·exact id0 hE hi
 ·rw [cloN_id]; exact wk_id hE (Nat.le_refl _) hi
theorem frE_zero {x : Ip} {c : Cl} (h1 : -1 ≤ x.bad ∧ x.bad < 4) (h2 : 0 ≤ c.fr ∧ c.fr ≤ 1073741823) (h3 : x.ly.length ≤ 400) (h4 : ∀ i, i < 4 → (c.nd i).id = (i : Nat)) : frE x c = 0 := by
 unfold frE
 rw [if_neg (by omega), if_neg (by omega), if_pos ⟨h4 0 (by omega), h4 1 (by omega), h4 2 (by omega), h4 3 (by omega)⟩]
def InOK (L : List Li) : Prop := L.length ≤ 1000 ∧ ∀ c, c ∈ L → (-1 ≤ c.bad ∧ c.bad < 4) ∧ c.LL.length ≤ 400
theorem cK_ok {t : Tn} {L : List Li} (h : InOK L) : ∀ k, k ≤ L.length → (cK t L k).fr = (k : Nat) ∧ (∀ i, i < 4 → ((cK t L k).nd i).id = (i : Nat)) ∧ (∀ c, L[k]? = some c → frE c.x (cK t L k) = 0)
 | 0, _ => by
  have h2 : ∀ i, i < 4 → ((cK t L 0).nd i).id = (i : Nat) := fun i hi => (begC_inv t (-1)).id i hi
  refine ⟨rfl, h2, fun c hc => ?_⟩
  obtain ⟨h3, h4⟩ := h.2 c (List.mem_of_getElem? hc)
  exact frE_zero h3 ⟨Int.le_refl _, (show (0 : Int) ≤ 1073741823 by decide)⟩ (by show (c.LL.map Lj.y).length ≤ 400; rw [List.length_map]; exact h4) h2
 | k + 1, hk => by
  obtain ⟨g1, g2, g3⟩ := cK_ok h k (by omega)
  have hc := List.getElem?_eq_getElem (show k < L.length by omega)
  have hE := g3 _ hc
  have e : cK t L (k + 1) = ⟨(cK t L k).fr + 1, frN (L[k]).x (cK t L k)⟩ := by rw [cK_succ hc]; unfold frC; rw [if_pos hE]
  have e1 : (cK t L (k + 1)).fr = ((k + 1 : Nat) : Int) := by rw [e]; show (cK t L k).fr + 1 = _; rw [g1]; omega
  have e2 : ∀ i, i < 4 → ((cK t L (k + 1)).nd i).id = (i : Nat) := fun i hi => by rw [e]; exact frN_id hE hi
  refine ⟨e1, e2, fun c hc => ?_⟩
  obtain ⟨h3, h4⟩ := h.2 c (List.mem_of_getElem? hc)
  have := h.1
  exact frE_zero h3 (by rw [e1]; omega) (by show (c.LL.map Lj.y).length ≤ 400; rw [List.length_map]; exact h4) e2
theorem cK_cls {t : Tn} {L : List Li} (ht : t.Ok) (hL : ∀ c, c ∈ L → IpOK c.x) : ∀ k, ClsOK (cK t L k)
 | 0 => begC_ok ht
 | k + 1 => by
  show ClsOK (match L[k]? with | some c => frC c.x (cK t L k) | none => cK t L k)
  split
  ·rename_i c hc
   exact frC_ok (hL c (List.mem_of_getElem? hc)) (cK_cls ht hL k)
  ·exact cK_cls ht hL k
def clH (d : Int × (Nat → Nd × Ad)) : Nat → Value := clG d.1 d.2
def rsH (d : List Nd × Ad) (_ : Nat) : Value := slV d.2 d.1.length
def rsJ (B : Nat) (d : List Nd × Ad) : It := ownI B 61 14 (slV d.2 d.1.length) d.1.length (rwS rpF 14 d.1)
theorem frC_congr {x : Ip} {fr : Int} {D : Nat → Nd × Ad} {c : Cl} (hf : c.fr = fr) (hn : ∀ i, i < 4 → (D i).1 = c.nd i) : frE x ⟨fr, fun i => (D i).1⟩ = frE x c ∧ (frC x ⟨fr, fun i => (D i).1⟩).fr = (frC x c).fr ∧ (∀ i, i < 4 → (frC x ⟨fr, fun i => (D i).1⟩).nd i = (frC x c).nd i) ∧ frR x ⟨fr, fun i => (D i).1⟩ = frR x c := by
 have hk : ∀ k, ∀ i, i < 4 → (wkK x ⟨fr, fun i => (D i).1⟩ k).nd i = (wkK x c k).nd i ∧ (wkK x ⟨fr, fun i => (D i).1⟩ k).bx i = (wkK x c k).bx i := by
  intro k
  induction k with
  | zero => exact fun i hi => ⟨hn i hi, rfl⟩
  | succ k ih =>
   intro i hi
   obtain ⟨h1, h2⟩ := ih i hi
   refine ⟨?_, ?_⟩
   ·show wkN x fr _ k i = wkN x c.fr _ k i
    rw [hf]
    exact (wkN_of h1 h2).1
   ·show bxM x _ i k 4 = bxM x _ i k 4
    refine bxM_congr fun j hj => ?_
    obtain ⟨h3, h4⟩ := ih j hj
    show wkM x fr _ k j = wkM x c.fr _ k j
    rw [hf]
    exact (wkN_of h3 h4).2
 have hN : ∀ i, i < 4 → frN x ⟨fr, fun i => (D i).1⟩ i = frN x c i := fun i hi => by
  unfold frN
  rw [(hk 5 i hi).1, (hk 5 i hi).2]
  show (if _ then (D i).1 else _) = _
  rw [hn i hi]
 have hE : frE x ⟨fr, fun i => (D i).1⟩ = frE x c := by
  unfold frE
  dsimp only
  simp only [hf, hn 0 (by omega), hn 1 (by omega), hn 2 (by omega), hn 3 (by omega)]
 refine ⟨hE, ?_, fun i hi => ?_, ?_⟩
 ·unfold frC
  rw [hE]
  split
  ·show fr + 1 = c.fr + 1; rw [hf]
  ·rfl
 ·unfold frC
  rw [hE]
  split
  ·exact hN i hi
  ·rfl
 ·unfold frR
  rw [hE]
  split
  ·refine List.map_congr_left fun i hi => hN i ?_
   unfold gdL at hi
   exact List.mem_range.1 (List.mem_filter.1 hi).1
  ·rfl
theorem res_t3 {P : Program} {a : Act} {w : World} {fn : Func} {p p' p2 : Nat} {u v z : Value} (h : fn.results = #[.tmp p, .tmp p', .tmp p2]) (hv : a.eval (.tmp p) = u) (hv' : a.eval (.tmp p') = v) (hv2 : a.eval (.tmp p2) = z) : (results fn a.tmps).run P w = .ok (.tuple #[u, v, z]) w := by
 have e := getD_ev hv; have e2 := getD_ev hv'; have e3 := getD_ev hv2
 simp only [Array.getD_eq_getD_getElem?] at e e2 e3
 simp [results, h, e, e2, e3]
theorem wp_one1 {P : Program} {Q : Exit → Act → World → Prop} {o : Oper} {a : Act} {K : Act → World → Prop} {w : World} {s e : TypeId} {x : Operand} {v z : Value} (hu : P.underlying s = some (.slice e)) (T : OneC P e) (hz : ∀ w, (zeroValue e).run P w = .ok z w) (h1 : z.cells = #[z]) (h2 : v.cells = #[v]) (ho : o.op = .buildSlice s 1 #[(0, x)]) (hx : a.eval x = v)
  (h : ∀ w', Vh e w' w.heap.size 1 1 (fun _ => v) → Below w.heap.size w w' → w'.heap.size = w.heap.size + 1 → K (a.put o.dst (.slice (some ⟨w.heap.size, 0, none⟩) 1 1)) w') : WpI P o a w K Q := by
 refine ⟨?_⟩
 have hh := h (w.alloc (.cells #[v] e)) (Vh.of_row (fun _ => v) 1 (by decide) (by show (w.heap.push _)[w.heap.size]? = _; rw [Array.getElem?_push_size]; rfl)) (al_below _ _) (al_size _ _)
 unfold Oper.wp execOp
 simp only [ho, List.map_toArray, List.map_cons, List.map_nil, hx, Instr.buildSlice, Sem.run_bind, run_underlying hu, Result.andThen_ok, T.size, Nat.one_mul, gt_iff_lt]
 rw [if_neg (by decide), if_neg (by decide)]
 simp only [Sem.run_bind, hz, Result.andThen_ok, Sem.run_pure, h1]
 have hf : ∀ ds : Array Value, ds.size = 1 → Instr.fill (fun i => some (i * 1, 1)) ds [(0, v)] = some #[v] := fun ds hds => by
  match ds, hds with
  | ⟨[d]⟩, _ => simp [Instr.fill, h2]
 rw [hf _ (by simp)]
 simp only [newRow, newObj]
 go_simp
 exact hh
set_option maxHeartbeats 2000000 in
theorem behind_any (t : Tn) (mo : Option Addr) (mc : Nat) (L : List Li) (w : World) (ht : t.Ok) (hr : RdS inpF 14 w mo L) (hok : ∀ c, c ∈ L → LiOK w c) (hin : InOK L) :
  Calls Tryz.prog 11 #[agV (ntnF t) 0 4, .slice mo L.length mc] w fun e w' => ∃ (v1 v2 : Value) (CL : List (Int × (Nat → Nd × Ad))) (RL : List (List Nd × Ad)), e = .returned (.tuple #[v1, v2, .bool true]) ∧ CL.length = L.length ∧ RL.length = L.length ∧ (∀ k d, CL[k]? = some d → d.1 = ((k + 1 : Nat) : Int) ∧ ∀ i, i < 4 → (d.2 i).1 = (cK t L (k + 1)).nd i) ∧ (∀ k d c, RL[k]? = some d → L[k]? = some c → d.1 = frR c.x (cK t L k)) ∧
   Cx w w' [ownI w.heap.size 58 297 v1 CL.length (rwS clH 297 CL), listI (fun d : Int × (Nat → Nd × Ad) => agI w.heap.size d.2) CL, ownI w.heap.size 59 1 v2 RL.length (rwS rsH 1 RL), listI (rsJ w.heap.size) RL] := by
 refine enterF Tryz.func11 rfl 52 rfl (of_decide_eq_true rfl) (fun A hs hd hb => ?_)
 have b0 : A.eval (.tmp 0) = agV (ntnF t) 0 4 := hb 0 _ rfl
 have b1 : A.eval (.tmp 1) = .slice mo L.length mc := hb 1 _ rfl
 clear hb
 have hL1 := hin.1
 have H := Cx.start w
 refine c_rs (m_start ?_)
 refine q_box H ?_
 intro w1 H z1
 repeat first | refine qa ?_ | refine l_nx ?_ | refine c_rs ?_
 have hsz := H.size
 refine q_c1 (clBegin_ok t w1 ht) ?_
 rintro e w2 ⟨D0, rfl, hD0, G⟩
 refine ⟨_, rfl, ?_⟩
 replace H := agI_base (H.plus G) hsz
 refine q_al H ?_
 intro w3 H z3
 refine q_sp0 H stP_whole (clG_one _ _) ?_
 intro w4 H z4
 repeat first | refine qa ?_ | refine l_nx ?_ | refine c_rs ?_ | refine c_nx ?_
 refine c_block ?_
 refine c_loop (fun r A W => ∃ (k : Nat) (D : Nat → Nd × Ad) (v1 v2 : Value) (CL CA : List (Int × (Nat → Nd × Ad))) (RL : List (List Nd × Ad)), k ≤ L.length ∧ L.length - k ≤ r ∧ A.tmps.size = 52 ∧ A.defers = [] ∧ A.eval (.tmp 1) = .slice mo L.length mc ∧ A.eval (.tmp 7) = .pointer (some ⟨w2.heap.size, 0, none⟩) ∧ A.eval (.tmp 8) = v1 ∧ A.eval (.tmp 9) = v2 ∧ A.eval (.tmp 10) = .int .i64 (k : Int) ∧
   CL.length = k ∧ RL.length = k ∧ (∀ i, i < 4 → (D i).1 = (cK t L k).nd i) ∧ (∃ q, (q, D) ∈ CA) ∧ (∀ d, d ∈ CL → d ∈ CA) ∧ (∀ j d, CL[j]? = some d → d.1 = ((j + 1 : Nat) : Int) ∧ ∀ i, i < 4 → (d.2 i).1 = (cK t L (j + 1)).nd i) ∧ (∀ j d c, RL[j]? = some d → L[j]? = some c → d.1 = frR c.x (cK t L j)) ∧
   Cx w W [vhI 58 w2.heap.size 297 297 (clG (k : Int) D), listI (fun d : Int × (Nat → Nd × Ad) => agI w.heap.size d.2) CA, ownI w.heap.size 58 297 v1 CL.length (rwS clH 297 CL), ownI w.heap.size 59 1 v2 RL.length (rwS rsH 1 RL), listI (rsJ w.heap.size) RL]) L.length
  ⟨0, D0, _, _, [], [(0, D0)], [], Nat.zero_le _, by omega, (szL _ _).trans hs, (defL _ _).trans hd, Qv, Qv, Qv, Qv, Qv, rfl, rfl, hD0, ⟨0, List.mem_cons_self⟩, fun _ h => (by cases h), fun j d h => (by simp at h), fun j d c h => (by simp at h), ?_⟩ (fun r B W hI => ?_)
 ·have H1 : Cx w w4 [vhI 58 w2.heap.size 297 297 (clG ((0 : Nat) : Int) D0), listI (fun d : Int × (Nat → Nd × Ad) => agI w.heap.size d.2) [(0, D0)]] := (H.f2.tl.f1.wk (y := listI (fun d : Int × (Nat → Nd × Ad) => agI w.heap.size d.2) [(0, D0)]) (fun h x hx => by simp only [List.mem_cons, List.not_mem_nil, or_false] at hx; rw [hx]; exact h) (fun k ⟨x, hx, hk⟩ => by simp only [List.mem_cons, List.not_mem_nil, or_false] at hx; rw [hx] at hk; exact hk)).f1
  have H2 := ((H1.add (Below.refl _ _) (listI (rsJ w.heap.size) []) (fun x hx => by cases hx) (fun j ⟨x, hx, _⟩ => by cases hx)).add (Below.refl _ _) (ownI w.heap.size 59 1 (.slice none 0 0) 0 []) (World.ownsRow_nil _ _ _ _) (fun j e => nomatch e)).add (Below.refl _ _) (ownI w.heap.size 58 297 (.slice none 0 0) 0 []) (World.ownsRow_nil _ _ _ _) (fun j e => nomatch e)
  exact H2.f4.f4
 clear b0 b1 hs hd H
 obtain ⟨k, D, v1, v2, CL, CA, RL, hk, hrr, hs, hd, b1, b7, b8, b9, b10, hCl, hRl, hD, ⟨q, hq⟩, hCA, hC, hR, H⟩ := hI
 refine c_nx ?_
 refine c_rs (m_start ?_)
 repeat first | refine qa ?_ | refine l_nx ?_
 refine q_if (fun h => ?_) (fun h => ?_)
 ·have hkn : k < L.length := by have := of_decide_eq_true h; omega
  have hc := List.getElem?_eq_getElem hkn
  obtain ⟨cc, ec⟩ : ∃ cc, cc = L[k] := ⟨_, rfl⟩
  rw [← ec] at hc
  have hcc := hok cc (by rw [ec]; exact List.getElem_mem hkn)
  obtain ⟨pb, po, rfl, hcell⟩ := hr (by omega)
  have hcell := hcell k cc hc
  obtain ⟨o1, o2, o3⟩ := cK_ok (t := t) hin k hk
  have hE := o3 cc hc
  obtain ⟨p1, p2, p3, p4⟩ := frC_congr (x := cc.x) o1 hD
  refine c_fin ?_
  refine c_nx (c_block ?_)
  refine c_nx ?_
  replace H := H.drew
  have hag : ∀ i, i < 4 → AgRd W.drew (D i).1 (D i).2.1 (D i).2.2 := fun i hi => by
   have ho : World.ownsRow _ _ _ _ _ _ _ := H.o1 (q, D) hq i hi
   obtain ⟨a3, c3, e, hs3, _⟩ := owns_sr ho
   cases e
   exact hs3
  have hcls : ClsOK ⟨(k : Int), fun i => (D i).1⟩ := by
   have := cK_cls (L := L) ht (fun c hc => (hok c hc).ip) k
   exact ⟨by have := this.1; rw [o1] at this; exact this, fun i hi => by show NdOK (D i).1; rw [hD i hi]; exact this.2 i hi⟩
  have eN : ∀ i, i < 4 → (frC cc.x ⟨(k : Int), fun i => (D i).1⟩).nd i = (cK t L (k + 1)).nd i := fun i hi => by rw [p3 i hi, cK_succ hc]
  have eF : (frC cc.x ⟨(k : Int), fun i => (D i).1⟩).fr = ((k + 1 : Nat) : Int) := by
   rw [p2, ← cK_succ hc]
   exact (cK_ok hin (k + 1) (by omega)).1
  have hcW : ∀ j, j < 14 → W.drew.cell? ⟨pb, po + k * 14 + j, none⟩ = some (inpF cc j) := fun j hj => at_below (hcell j hj) H.bel
  have hS : (fun W' => Its [vhI 58 w2.heap.size 297 297 (clG (k : Int) D)] W' ∧ ∀ j, j < 14 → W'.cell? ⟨pb, po + k * 14 + j, none⟩ = some (inpF cc j)) W.drew := ⟨Its.cons H.o0 (Its.nil _), hcW⟩
  refine c_rj (S := fun W' => Its [vhI 58 w2.heap.size 297 297 (clG (k : Int) D)] W' ∧ ∀ j, j < 14 → W'.cell? ⟨pb, po + k * 14 + j, none⟩ = some (inpF cc j)) (.rd 0 (.mv 1 (.mv 2 (.mv 3 (.rd 4 (.two 5 10 (.mv 6 (.mv 7 (.mv 8 (.mv 9 (.go 10 (.go 11 (.mv 12 (.mv 13 .fin)))))))) (.go 5 (.mv 6 (.mv 7 (.mv 8 (.mv 9 (.go 11 (.mv 12 (.mv 13 .fin)))))))))))))) [11] (by kernel_rfl) (by kernel_rfl) ?_
  refine Yr rfl hS (fun _ H => run_loadP _ _ rfl ManyK.out Qv H.1.v0 (by omega)) ?_
  iterate 2 refine qj ?_
  refine j_mv rfl rfl (fun _ _ _ h => h) (wanted_rd rfl) (fun w => run_ixSC _ _ _ _ rfl SlcK.out SizK.out Qv Qv rfl hkn w) ?_
  refine Yr rfl hS (fun _ H => run_lodCs (g := inpF cc) ManyK.out H.2 rfl Qv) ?_
  refine sJ_cut (r := .go 11 (.mv 12 (.mv 13 .fin))) (fun A W' => ∃ (qb : Nat) (D' : Nat → Nd × Ad) (vr : Value), A.tmps.size = 52 ∧ A.defers = [] ∧ A.eval (.tmp 1) = .slice (some ⟨pb, po, none⟩) L.length mc ∧ A.eval (.tmp 7) = .pointer (some ⟨w2.heap.size, 0, none⟩) ∧ A.eval (.tmp 8) = v1 ∧ A.eval (.tmp 9) = v2 ∧ A.eval (.tmp 10) = .int .i64 (k : Int) ∧ A.eval (.tmp 11) = .pointer (some ⟨qb, 0, none⟩) ∧ A.eval (.tmp 29) = agV (clG ((k + 1 : Nat) : Int) D') 0 297 ∧ A.eval (.tmp 30) = vr ∧ A.eval (.tmp 31) = .int .i64 0 ∧ (∀ i, i < 4 → (D' i).1 = (cK t L (k + 1)).nd i) ∧ Cx w W' [vhI 58 qb 297 297 (clF 0 (fun _ => zeroN) (fun _ => slV (none, 0) 0)), ownI w.heap.size 61 14 vr (frR cc.x (cK t L k)).length (rwS rpF 14 (frR cc.x (cK t L k))), agI w.heap.size D', vhI 58 w2.heap.size 297 297 (clG (k : Int) D), listI (fun d : Int × (Nat → Nd × Ad) => agI w.heap.size d.2) CA, ownI w.heap.size 58 297 v1 CL.length (rwS clH 297 CL), ownI w.heap.size 59 1 v2 RL.length (rwS rsH 1 RL), listI (rsJ w.heap.size) RL]) (fun A W' hT => ?_) (fun hcut => ?_)
  ·clear b1 b7 b8 b9 b10 hs hd H hS hcW hag
   obtain ⟨qb, D', vr, hs, hd, b1, b7, b8, b9, b10, b11, b29, b30, b31, hD', H⟩ := hT
   refine j_start ?_
   refine j_st rfl (wanted_rd rfl) (fun K hK => ?_)
   refine wp_storeP _ _ _ _ rfl ManyK.out Qv Qv H.v0 (by omega) (clG_one _ _) rfl ?_
   intro w6 m6 k6 z6
   replace H := H.s0 k6 (m6.congr stP_whole)
   refine hK _ (fun h => absurd h (by decide)) ?_
   clear hK K
   iterate 2 refine qj ?_
   refine j_nx ?_
   refine c_nx ?_
   refine c_rs ?_
   refine qa ?_
   refine qg (run_neqE (b := false) _ _ rfl Qv Qv rfl _) ?_
   iterate 5 refine qa ?_
   refine qg (run_neqI (b := false) _ _ rfl Qv Qv (decide_eq_false (fun e => e (by show ((k + 1 : Nat) : Int) = (k : Int) + 1; omega))) _) ?_
   refine qg (run_pickF _ _ _ rfl Qv Qv _) ?_
   refine l_nx ?_
   refine q_no rfl (c_fin ?_)
   refine c_rs ?_
   refine qa ?_
   refine q_sp3 H stP_whole (clG_one _ _) ?_
   intro w7 H z7
   refine l_nx ?_
   refine c_region ?_
   iterate 2 refine qa ?_
   refine m_do rfl (wanted_rd rfl) (fun K hK => ?_)
   refine wp_oneG SlcK.out ManyK.out ZerK.out (by decide) (by decide) rfl Qv ?_
   intro w8 m8 k8 z8
   have hsz := H.size
   replace H := H.call k8
   refine hK _ _ ?_
   clear hK K
   refine q_ap5 (bytes := 2344) H (rdc_own (rwS_own1 (B := w.heap.size) (F := clH) (x := (((k + 1 : Nat) : Int), D')) m8 (by omega))) (rwS_one (fun x _ => clG_one _ _)) (by unfold maxLen; omega) (by omega) ?_
   intro v1' w9 H
   iterate 2 refine qa ?_
   refine m_do rfl (wanted_rd rfl) (fun K hK => ?_)
   have hvr : World.ownsRow _ _ _ _ _ _ _ := H.o1
   obtain ⟨ra, rc, rfl, hrc⟩ := rw_slice hvr
   refine wp_one1 (v := .slice ra (frR cc.x (cK t L k)).length rc) SlcK.out OneK.out Zer1.out rfl rfl rfl Qv ?_
   intro w10 m10 k10 z10
   have hsz := H.size
   replace H := H.call k10
   refine hK _ _ ?_
   clear hK K
   refine q_ap0 (bytes := 24) H.f6 (rdc_own (rwS_own1 (B := w.heap.size) (F := rsH) (x := (frR cc.x (cK t L k), (ra, rc))) m10 (by omega))) (rwS_one (fun x _ _ _ => rfl)) (by unfold maxLen; omega) (by omega) ?_
   intro v2' w11 H
   iterate 2 refine qa ?_
   refine l_finB ?_
   refine c_region ?_
   repeat refine qa ?_
   have H2 := list_push (f := rsJ w.heap.size) (y := (frR cc.x (cK t L k), (ra, rc))) H.f7.f3
   have H3 := list_push (f := fun d : Int × (Nat → Nd × Ad) => agI w.heap.size d.2) (y := (((k + 1 : Nat) : Int), D')) H2.f5.f4
   refine l_round ⟨L.length - (k + 1), by omega, k + 1, D', _, _, CL ++ [(((k + 1 : Nat) : Int), D')], CA ++ [(((k + 1 : Nat) : Int), D')], RL ++ [(frR cc.x (cK t L k), (ra, rc))], by omega, by omega, (szL _ _).trans hs, (defL _ _).trans hd, Qv, Qv, Qv, Qv, Eq.trans Qv (by rw [Int.natCast_add]; rfl), by rw [List.length_append, hCl]; rfl, by rw [List.length_append, hRl]; rfl, hD', ⟨_, List.mem_append_right _ List.mem_cons_self⟩, fun d hd2 => ?_, fun j d hj => ?_, fun j d c hj hjc => ?_, ?_⟩
   ·rcases List.mem_append.1 hd2 with h | h
    ·exact List.mem_append_left _ (hCA d h)
    ·exact List.mem_append_right _ h
   ·by_cases e : j < CL.length
    ·rw [List.getElem?_append_left e] at hj
     exact hC j d hj
    ·have hjl := (List.getElem?_eq_some_iff.1 hj).1
     rw [List.length_append] at hjl
     have hjk : j = k := by simp only [List.length_cons, List.length_nil] at hjl; omega
     rw [List.getElem?_append_right (by omega), show j - CL.length = 0 by omega] at hj
     have hj : (((k + 1 : Nat) : Int), D') = d := by simpa using hj
     rw [← hj, hjk]
     exact ⟨rfl, hD'⟩
   ·by_cases e : j < RL.length
    ·rw [List.getElem?_append_left e] at hj
     exact hR j d c hj hjc
    ·have hjl := (List.getElem?_eq_some_iff.1 hj).1
     rw [List.length_append] at hjl
     have hjk : j = k := by simp only [List.length_cons, List.length_nil] at hjl; omega
     rw [List.getElem?_append_right (by omega), show j - RL.length = 0 by omega] at hj
     have hj : (frR cc.x (cK t L k), (ra, rc)) = d := by simpa using hj
     rw [hjk, hc] at hjc
     cases hjc
     rw [← hj, hjk]
   ·rw [List.length_append, List.length_append, rwS_app, rwS_app]
    exact H3.f3.tl.f3.f4.b2.f4.b3
  ·refine j_two ?_ ?_
   ·refine j_do rfl rfl (wanted_rd rfl) (fun K hK => ?_)
    have hsz := H.size
    refine wp_call2 _ 21 _ _ _ rfl Qv Qv (EntK.out _ _) (frame_ok cc.x (k : Int) D cc.lo cc.lc cc.LL _ rfl hcc.ip hcls hag (hcc.jr.below H.bel)) ?_
    rintro e w5 ⟨D', vr, rfl, hD', G⟩
    rw [p4] at G
    replace H := H.plus G
    refine ⟨_, rfl, hK _ _ (fun _ h => ⟨Its.cons H.o2 (Its.nil _), fun j hj => at_below (h.2 j hj) G.bel⟩) ?_⟩
    clear hK K
    refine qj ?_
    refine j_mv rfl rfl (fun _ _ _ h => h) (wanted_rd rfl) (fun w => run_ext3A _ rfl Qv w) ?_
    refine j_mv rfl rfl (fun _ _ _ h => h) (wanted_rd rfl) (fun w => run_ext3B _ rfl Qv w) ?_
    refine j_mv rfl rfl (fun _ _ _ h => h) (wanted_rd rfl) (fun w => run_ext3C _ rfl Qv w) ?_
    refine j_do rfl rfl (wanted_rd rfl) (fun K hK => ?_)
    refine wp_allocG _ _ rfl ZerK.out (of_decide_eq_true rfl) ?_
    intro w6 m6 k6 z6
    replace H := H.add k6 (vhI _ _ _ _ _) m6 (fun j e => Nat.le_of_eq e.symm)
    refine hK _ _ (fun _ h => ⟨Its.cons H.o3 (Its.nil _), fun j hj => at_below (h.2 j hj) k6⟩) ?_
    clear hK K
    refine hcut _ _ ⟨_, D', vr, (szL _ _).trans hs, (defL _ _).trans hd, Qv, Qv, Qv, Qv, Qv, Qv, Eq.trans Qv (by rw [eF]), Qv, Eq.trans Qv (by rw [p1, hE]), fun i hi => (hD' i hi).trans (eN i hi), ?_⟩
    exact (agI_base (ownI_base H.f1 hsz).f2 hsz).b2.b1
   ·refine j_do rfl rfl (wanted_rd rfl) (fun K hK => ?_)
    refine wp_allocG _ _ rfl ZerK.out (of_decide_eq_true rfl) ?_
    intro w6 m6 k6 z6
    replace H := H.add k6 (vhI _ _ _ _ _) m6 (fun j e => Nat.le_of_eq e.symm)
    refine hK _ _ (fun _ h => ⟨Its.cons H.o1 (Its.nil _), fun j hj => at_below (h.2 j hj) k6⟩) ?_
    clear hK K
    refine j_do rfl rfl (wanted_rd rfl) (fun K hK => ?_)
    have hsz := H.size
    refine wp_call2 _ 21 _ _ _ rfl Qv Qv (EntK.out _ _) (frame_ok cc.x (k : Int) D cc.lo cc.lc cc.LL _ rfl hcc.ip hcls (fun i hi => (hag i hi).below k6) (hcc.jr.below H.bel)) ?_
    rintro e w5 ⟨D', vr, rfl, hD', G⟩
    rw [p4] at G
    replace H := H.plus G
    refine ⟨_, rfl, hK _ _ (fun _ h => ⟨Its.cons H.o3 (Its.nil _), fun j hj => at_below (h.2 j hj) G.bel⟩) ?_⟩
    clear hK K
    refine qj ?_
    refine j_mv rfl rfl (fun _ _ _ h => h) (wanted_rd rfl) (fun w => run_ext3A _ rfl Qv w) ?_
    refine j_mv rfl rfl (fun _ _ _ h => h) (wanted_rd rfl) (fun w => run_ext3B _ rfl Qv w) ?_
    refine j_mv rfl rfl (fun _ _ _ h => h) (wanted_rd rfl) (fun w => run_ext3C _ rfl Qv w) ?_
    refine hcut _ _ ⟨_, D', vr, (szL _ _).trans hs, (defL _ _).trans hd, Qv, Qv, Qv, Qv, Qv, Qv, Eq.trans Qv (by rw [eF]), Qv, Eq.trans Qv (by rw [p1, hE]), fun i hi => (hD' i hi).trans (eN i hi), ?_⟩
    exact ((agI_base (ownI_base H hsz).f1 hsz).f1).f2
 ·obtain rfl : k = L.length := by have := of_decide_eq_false h; omega
  refine c_exit (x_out' ?_)
  refine c_rs ?_
  repeat first | refine qa ?_ | refine l_nx ?_
  refine c_ret (ret_of ((defL _ _).trans hd) (res_t3 rfl Qv Qv Qv) ⟨v1, v2, CL, RL, rfl, hCl, hRl, hC, hR, ?_⟩)
  exact (H.tl.wk (y := listI (fun d : Int × (Nat → Nd × Ad) => agI w.heap.size d.2) CL) (fun h x hx => h x (hCA x hx)) (fun j ⟨x, hx, hj⟩ => ⟨x, hCA x hx, hj⟩)).f1
end Go.Proofs.YtdhblehhgpdpdacGreat
namespace Go.Proofs.YtdhblehhgpdpdacGreat
open Go.RowKit
theorem run_eqI4 (d : Nat) (a b c e : Int) (w : World) : (Op.equalIn (d + 1 + 1) 48 (.agg #[.int .i64 a, .int .i64 b, .int .i64 c, .int .i64 e]) (.agg #[.int .i64 a, .int .i64 b, .int .i64 c, .int .i64 e])).run Tryz.prog w = .ok true w := by
 have u3 := Tryz.underlying3
 have a3 := Tryz.isAgg3
 have z3 := Tryz.sizeOf3
 have ta : (a == a) = true := by simp
 have tb : (b == b) = true := by simp
 have tc : (c == c) = true := by simp
 have td : (e == e) = true := by simp
 rw [Op.equalIn]
 simp only [Sem.run_bind, run_underlying Tryz.underlying48, Result.andThen_ok]
 simp only [Std.Legacy.Range.forIn_eq_forIn_range', Std.Legacy.Range.size, Nat.sub_zero, Nat.add_sub_cancel, Nat.div_one, List.range'_succ, List.range'_zero, List.forIn_cons, List.forIn_nil]
 go_simp
theorem run_eqB4 (d : Nat) (a b c e : Bool) (w : World) : (Op.equalIn (d + 1 + 1) 47 (.agg #[.bool a, .bool b, .bool c, .bool e]) (.agg #[.bool a, .bool b, .bool c, .bool e])).run Tryz.prog w = .ok true w := by
 have u3 := Tryz.underlying4
 have a3 := Tryz.isAgg4
 have z3 := Tryz.sizeOf4
 have ta : (a == a) = true := by simp
 have tb : (b == b) = true := by simp
 have tc : (c == c) = true := by simp
 have td : (e == e) = true := by simp
 rw [Op.equalIn]
 simp only [Sem.run_bind, run_underlying Tryz.underlying47, Result.andThen_ok]
 simp only [Std.Legacy.Range.forIn_eq_forIn_range', Std.Legacy.Range.size, Nat.sub_zero, Nat.add_sub_cancel, Nat.div_one, List.range'_succ, List.range'_zero, List.forIn_cons, List.forIn_nil]
 go_simp
end Go.Proofs.YtdhblehhgpdpdacGreat
namespace Go.Proofs.YtdhblehhgpdpdacGreat
open Go.RowKit
theorem run_eqI3 (d : Nat) (g : Nat → Int) (w : World) : (Op.equalIn (d + 1 + 1) 27 (.agg #[.int .i64 (g 0), .int .i64 (g 1), .int .i64 (g 2)]) (.agg #[.int .i64 (g 0), .int .i64 (g 1), .int .i64 (g 2)])).run Tryz.prog w = .ok true w := by
 have u3 := Tryz.underlying3
 have a3 := Tryz.isAgg3
 have z3 := Tryz.sizeOf3
 have t0 : (g 0 == g 0) = true := by simp
 have t1 : (g 1 == g 1) = true := by simp
 have t2 : (g 2 == g 2) = true := by simp
 rw [Op.equalIn]
 simp only [Sem.run_bind, run_underlying Tryz.underlying27, Result.andThen_ok]
 simp only [Std.Legacy.Range.forIn_eq_forIn_range', Std.Legacy.Range.size, Nat.sub_zero, Nat.add_sub_cancel, Nat.div_one, List.range'_succ, List.range'_zero, List.forIn_cons, List.forIn_nil]
 go_simp
theorem run_eqSt (d : Nat) (s : St) (w : World) : (Op.equalIn (d + 1 + 1) 45 (.agg #[.int .i64 (s).X, .int .i64 (s).V, .int .i64 (s).P00, .int .i64 (s).P01, .int .i64 (s).P11, .bool (s).B, .int .i64 (s).M]) (.agg #[.int .i64 (s).X, .int .i64 (s).V, .int .i64 (s).P00, .int .i64 (s).P01, .int .i64 (s).P11, .bool (s).B, .int .i64 (s).M])).run Tryz.prog w = .ok true w := by
 have u3 := Tryz.underlying3
 have a3 := Tryz.isAgg3
 have z3 := Tryz.sizeOf3
 have u4 := Tryz.underlying4
 have a4 := Tryz.isAgg4
 have z4 := Tryz.sizeOf4
 have tX : (s.X == s.X) = true := by simp
 have tV : (s.V == s.V) = true := by simp
 have tP00 : (s.P00 == s.P00) = true := by simp
 have tP01 : (s.P01 == s.P01) = true := by simp
 have tP11 : (s.P11 == s.P11) = true := by simp
 have tB : (s.B == s.B) = true := by simp
 have tM : (s.M == s.M) = true := by simp
 rw [Op.equalIn]
 simp only [Sem.run_bind, run_underlying Tryz.underlying45, Result.andThen_ok]
 go_simp
set_option maxRecDepth 100000 in
theorem run_eqlSt3A (a : Nat → St) (w : World) : (Op.equalIn 10000 46 (.agg #[.int .i64 (a 0).X, .int .i64 (a 0).V, .int .i64 (a 0).P00, .int .i64 (a 0).P01, .int .i64 (a 0).P11, .bool (a 0).B, .int .i64 (a 0).M, .int .i64 (a 1).X, .int .i64 (a 1).V, .int .i64 (a 1).P00, .int .i64 (a 1).P01, .int .i64 (a 1).P11, .bool (a 1).B, .int .i64 (a 1).M, .int .i64 (a 2).X, .int .i64 (a 2).V, .int .i64 (a 2).P00, .int .i64 (a 2).P01, .int .i64 (a 2).P11, .bool (a 2).B, .int .i64 (a 2).M]) (.agg #[.int .i64 (a 0).X, .int .i64 (a 0).V, .int .i64 (a 0).P00, .int .i64 (a 0).P01, .int .i64 (a 0).P11, .bool (a 0).B, .int .i64 (a 0).M, .int .i64 (a 1).X, .int .i64 (a 1).V, .int .i64 (a 1).P00, .int .i64 (a 1).P01, .int .i64 (a 1).P11, .bool (a 1).B, .int .i64 (a 1).M, .int .i64 (a 2).X, .int .i64 (a 2).V, .int .i64 (a 2).P00, .int .i64 (a 2).P01, .int .i64 (a 2).P11, .bool (a 2).B, .int .i64 (a 2).M])).run Tryz.prog w = .ok true w := by
 have u3 := Tryz.underlying45
 have a3 := Tryz.isAgg45
 have z3 := Tryz.sizeOf45
 have h0 : (Op.equalIn (9997 + 1 + 1) 45 (.agg #[.int .i64 (a 0).X, .int .i64 (a 0).V, .int .i64 (a 0).P00, .int .i64 (a 0).P01, .int .i64 (a 0).P11, .bool (a 0).B, .int .i64 (a 0).M]) (.agg #[.int .i64 (a 0).X, .int .i64 (a 0).V, .int .i64 (a 0).P00, .int .i64 (a 0).P01, .int .i64 (a 0).P11, .bool (a 0).B, .int .i64 (a 0).M])).run Tryz.prog w = .ok true w := run_eqSt 9997 (a 0) w
 have h1 : (Op.equalIn (9997 + 1 + 1) 45 (.agg #[.int .i64 (a 1).X, .int .i64 (a 1).V, .int .i64 (a 1).P00, .int .i64 (a 1).P01, .int .i64 (a 1).P11, .bool (a 1).B, .int .i64 (a 1).M]) (.agg #[.int .i64 (a 1).X, .int .i64 (a 1).V, .int .i64 (a 1).P00, .int .i64 (a 1).P01, .int .i64 (a 1).P11, .bool (a 1).B, .int .i64 (a 1).M])).run Tryz.prog w = .ok true w := run_eqSt 9997 (a 1) w
 have h2 : (Op.equalIn (9997 + 1 + 1) 45 (.agg #[.int .i64 (a 2).X, .int .i64 (a 2).V, .int .i64 (a 2).P00, .int .i64 (a 2).P01, .int .i64 (a 2).P11, .bool (a 2).B, .int .i64 (a 2).M]) (.agg #[.int .i64 (a 2).X, .int .i64 (a 2).V, .int .i64 (a 2).P00, .int .i64 (a 2).P01, .int .i64 (a 2).P11, .bool (a 2).B, .int .i64 (a 2).M])).run Tryz.prog w = .ok true w := run_eqSt 9997 (a 2) w
 rw [show (10000 : Nat) = 9997 + 1 + 1 + 1 from rfl, Op.equalIn]
 simp only [Sem.run_bind, run_underlying Tryz.underlying46, Result.andThen_ok]
 simp only [Std.Legacy.Range.forIn_eq_forIn_range', Std.Legacy.Range.size, Nat.sub_zero, Nat.add_sub_cancel, Nat.div_one, List.range'_succ, List.range'_zero, List.forIn_cons, List.forIn_nil]
 go_simp
set_option maxRecDepth 100000 in
theorem run_eql43A (g : Nat → Nat → Int) (w : World) : (Op.equalIn 10000 28 (.agg #[.int .i64 (g 0 0), .int .i64 (g 0 1), .int .i64 (g 0 2), .int .i64 (g 1 0), .int .i64 (g 1 1), .int .i64 (g 1 2), .int .i64 (g 2 0), .int .i64 (g 2 1), .int .i64 (g 2 2), .int .i64 (g 3 0), .int .i64 (g 3 1), .int .i64 (g 3 2)]) (.agg #[.int .i64 (g 0 0), .int .i64 (g 0 1), .int .i64 (g 0 2), .int .i64 (g 1 0), .int .i64 (g 1 1), .int .i64 (g 1 2), .int .i64 (g 2 0), .int .i64 (g 2 1), .int .i64 (g 2 2), .int .i64 (g 3 0), .int .i64 (g 3 1), .int .i64 (g 3 2)])).run Tryz.prog w = .ok true w := by
 have u3 := Tryz.underlying27
 have a3 := Tryz.isAgg27
 have z3 := Tryz.sizeOf27
 have h0 : (Op.equalIn (9997 + 1 + 1) 27 (.agg #[.int .i64 (g 0 0), .int .i64 (g 0 1), .int .i64 (g 0 2)]) (.agg #[.int .i64 (g 0 0), .int .i64 (g 0 1), .int .i64 (g 0 2)])).run Tryz.prog w = .ok true w := run_eqI3 9997 (g 0) w
 have h1 : (Op.equalIn (9997 + 1 + 1) 27 (.agg #[.int .i64 (g 1 0), .int .i64 (g 1 1), .int .i64 (g 1 2)]) (.agg #[.int .i64 (g 1 0), .int .i64 (g 1 1), .int .i64 (g 1 2)])).run Tryz.prog w = .ok true w := run_eqI3 9997 (g 1) w
 have h2 : (Op.equalIn (9997 + 1 + 1) 27 (.agg #[.int .i64 (g 2 0), .int .i64 (g 2 1), .int .i64 (g 2 2)]) (.agg #[.int .i64 (g 2 0), .int .i64 (g 2 1), .int .i64 (g 2 2)])).run Tryz.prog w = .ok true w := run_eqI3 9997 (g 2) w
 have h3 : (Op.equalIn (9997 + 1 + 1) 27 (.agg #[.int .i64 (g 3 0), .int .i64 (g 3 1), .int .i64 (g 3 2)]) (.agg #[.int .i64 (g 3 0), .int .i64 (g 3 1), .int .i64 (g 3 2)])).run Tryz.prog w = .ok true w := run_eqI3 9997 (g 3) w
 rw [show (10000 : Nat) = 9997 + 1 + 1 + 1 from rfl, Op.equalIn]
 simp only [Sem.run_bind, run_underlying Tryz.underlying28, Result.andThen_ok]
 simp only [Std.Legacy.Range.forIn_eq_forIn_range', Std.Legacy.Range.size, Nat.sub_zero, Nat.add_sub_cancel, Nat.div_one, List.range'_succ, List.range'_zero, List.forIn_cons, List.forIn_nil]
 go_simp
theorem ndF_axs (n : Nd) (v : Value) : ∀ j, j < 21 → ndF n v (0 + 6 + j) = (fun j => nstF (n.ax (j / 7)) (j % 7)) j := by
 intro j hj
 unfold ndF
 rw [if_neg (by omega), if_neg (by omega), if_pos (by omega), show 0 + 6 + j - 6 = j by omega]
theorem ndF_ags (n : Nd) (v : Value) : ∀ j, j < 12 → ndF n v (0 + 55 + j) = (fun j => iV (n.ag (j / 3) (j % 3))) j := by
 intro j hj
 unfold ndF
 rw [if_neg (by omega), if_neg (by omega), if_neg (by omega), if_neg (by omega), if_neg (by omega), if_neg (by omega), if_pos (by omega), show 0 + 55 + j - 55 = j by omega]
theorem ndF_uss (n : Nd) (v : Value) : ∀ j, j < 3 → ndF n v (0 + 67 + j) = (fun j => iV (n.us j)) j := by
 intro j hj
 unfold ndF
 rw [if_neg (by omega), if_neg (by omega), if_neg (by omega), if_neg (by omega), if_neg (by omega), if_neg (by omega), if_neg (by omega), if_pos (by omega), show 0 + 67 + j - 67 = j by omega]
end Go.Proofs.YtdhblehhgpdpdacGreat
namespace Go.Proofs.YtdhblehhgpdpdacGreat
open Go.RowKit
set_option maxRecDepth 100000 in
theorem run_neqI3N {f : Operand → Value} {o : Oper} (x y : Operand) (ho : o.op = .binOp .neq 27 x y 27) {g : Nat → Int} (hx : f x = agV (fun j => iV (g j)) 0 3) (hy : f y = agV (fun j => iV (g j)) 0 3) (w : World) : (execOp f o).run Tryz.prog w = .ok (.value (.bool false)) w := by
 have hx' : f x = .agg #[.int .i64 (g 0), .int .i64 (g 1), .int .i64 (g 2)] := hx
 have hy' : f y = .agg #[.int .i64 (g 0), .int .i64 (g 1), .int .i64 (g 2)] := hy
 clear hx hy
 have h0 := run_eqI3 9998 g w
 unfold execOp
 rw [ho]
 dsimp only
 rw [hx', hy']
 go_simp
set_option maxRecDepth 100000 in
theorem run_neqSt3N {f : Operand → Value} {o : Oper} (x y : Operand) (ho : o.op = .binOp .neq 46 x y 46) {a : Nat → St} (hx : f x = agV (fun j => nstF (a (j / 7)) (j % 7)) 0 21) (hy : f y = agV (fun j => nstF (a (j / 7)) (j % 7)) 0 21) (w : World) : (execOp f o).run Tryz.prog w = .ok (.value (.bool false)) w := by
 have hx' : f x = .agg #[.int .i64 (a 0).X, .int .i64 (a 0).V, .int .i64 (a 0).P00, .int .i64 (a 0).P01, .int .i64 (a 0).P11, .bool (a 0).B, .int .i64 (a 0).M, .int .i64 (a 1).X, .int .i64 (a 1).V, .int .i64 (a 1).P00, .int .i64 (a 1).P01, .int .i64 (a 1).P11, .bool (a 1).B, .int .i64 (a 1).M, .int .i64 (a 2).X, .int .i64 (a 2).V, .int .i64 (a 2).P00, .int .i64 (a 2).P01, .int .i64 (a 2).P11, .bool (a 2).B, .int .i64 (a 2).M] := hx
 have hy' : f y = .agg #[.int .i64 (a 0).X, .int .i64 (a 0).V, .int .i64 (a 0).P00, .int .i64 (a 0).P01, .int .i64 (a 0).P11, .bool (a 0).B, .int .i64 (a 0).M, .int .i64 (a 1).X, .int .i64 (a 1).V, .int .i64 (a 1).P00, .int .i64 (a 1).P01, .int .i64 (a 1).P11, .bool (a 1).B, .int .i64 (a 1).M, .int .i64 (a 2).X, .int .i64 (a 2).V, .int .i64 (a 2).P00, .int .i64 (a 2).P01, .int .i64 (a 2).P11, .bool (a 2).B, .int .i64 (a 2).M] := hy
 clear hx hy
 have h0 := run_eqlSt3A a w
 unfold execOp
 rw [ho]
 dsimp only
 rw [hx', hy']
 go_simp
set_option maxRecDepth 100000 in
theorem run_neq43N {f : Operand → Value} {o : Oper} (x y : Operand) (ho : o.op = .binOp .neq 28 x y 28) {g : Nat → Nat → Int} (hx : f x = agV (fun j => iV (g (j / 3) (j % 3))) 0 12) (hy : f y = agV (fun j => iV (g (j / 3) (j % 3))) 0 12) (w : World) : (execOp f o).run Tryz.prog w = .ok (.value (.bool false)) w := by
 have hx' : f x = .agg #[.int .i64 (g 0 0), .int .i64 (g 0 1), .int .i64 (g 0 2), .int .i64 (g 1 0), .int .i64 (g 1 1), .int .i64 (g 1 2), .int .i64 (g 2 0), .int .i64 (g 2 1), .int .i64 (g 2 2), .int .i64 (g 3 0), .int .i64 (g 3 1), .int .i64 (g 3 2)] := hx
 have hy' : f y = .agg #[.int .i64 (g 0 0), .int .i64 (g 0 1), .int .i64 (g 0 2), .int .i64 (g 1 0), .int .i64 (g 1 1), .int .i64 (g 1 2), .int .i64 (g 2 0), .int .i64 (g 2 1), .int .i64 (g 2 2), .int .i64 (g 3 0), .int .i64 (g 3 1), .int .i64 (g 3 2)] := hy
 clear hx hy
 have h0 := run_eql43A g w
 unfold execOp
 rw [ho]
 dsimp only
 rw [hx', hy']
 go_simp
set_option maxRecDepth 100000 in
theorem run_neqRlN {f : Operand → Value} {o : Oper} (x y : Operand) (ho : o.op = .binOp .neq 50 x y 50) {r : Rl} (hx : f x = rollV r) (hy : f y = rollV r) (w : World) :
  (execOp f o).run Tryz.prog w = .ok (.value (.bool false)) w := by
 have h0 : (Op.equalIn 9999 47 (.agg #[.bool (r.I 0), .bool (r.I 1), .bool (r.I 2), .bool (r.I 3)]) (.agg #[.bool (r.I 0), .bool (r.I 1), .bool (r.I 2), .bool (r.I 3)])).run Tryz.prog w = .ok true w := run_eqB4 9997 (r.I 0) (r.I 1) (r.I 2) (r.I 3) w
 have h1 : (Op.equalIn 9999 48 (.agg #[.int .i64 (r.M 0), .int .i64 (r.M 1), .int .i64 (r.M 2), .int .i64 (r.M 3)]) (.agg #[.int .i64 (r.M 0), .int .i64 (r.M 1), .int .i64 (r.M 2), .int .i64 (r.M 3)])).run Tryz.prog w = .ok true w := run_eqI4 9997 (r.M 0) (r.M 1) (r.M 2) (r.M 3) w
 have h2 : (Op.equalIn 9999 48 (.agg #[.int .i64 (r.J 0), .int .i64 (r.J 1), .int .i64 (r.J 2), .int .i64 (r.J 3)]) (.agg #[.int .i64 (r.J 0), .int .i64 (r.J 1), .int .i64 (r.J 2), .int .i64 (r.J 3)])).run Tryz.prog w = .ok true w := run_eqI4 9997 (r.J 0) (r.J 1) (r.J 2) (r.J 3) w
 unfold rollV at hx hy
 unfold execOp
 rw [ho]
 dsimp only
 rw [hx, hy]
 go_simp
theorem run_neqTT {f : Operand → Value} {o : Oper} (x y : Operand) (ho : o.op = .binOp .neq 4 x y 4) {u v : Bool} (hx : f x = .bool u) (hy : f y = .bool v) (hb : u = v) (w : World) : (execOp f o).run Tryz.prog w = .ok (.value (.bool false)) w := by
 subst hb
 unfold execOp
 rw [ho]
 dsimp only
 rw [hx, hy]
 cases u <;> (change _ = _; kernel_rfl)
theorem run_ixTb {f : Operand → Value} {o : Oper} (x y : Operand) (ho : o.op = .indexAddr 51 x y) {a : Addr} {n cap i : Nat} {z : Int} (hx : f x = .slice (some a) n cap) (hy : f y = .int .i64 z) (hz : z = (i : Int)) (hi : i < n) (w : World) : (execOp f o).run Tryz.prog w = .ok (.value (.pointer (some (a.add i)))) w := by
 subst hz
 have hi2 : (i : Int) < n := by omega
 unfold execOp
 rw [ho]
 dsimp only
 rw [hx, hy]
 go_simp
end Go.Proofs.YtdhblehhgpdpdacGreat
namespace Go.Proofs.YtdhblehhgpdpdacGreat
open Go.RowKit
def t1 : Tn := ⟨4294967296, 0, 4294967296, 429496729600⟩
def rdA1 (_ a : Nat) : Int := if a = 0 then 4294967296 else 0
def x1 : Ip := ⟨rdA1, -1, []⟩
theorem t1_ok : t1.Ok := ⟨by unfold R64 t1; decide, by unfold R64 t1; decide, by unfold R64 t1; decide, by unfold R64 t1; decide⟩
theorem x1_ok : IpOK x1 := ⟨fun s a => by show R64 (rdA1 s a); unfold rdA1; split <;> (unfold R64; decide), by unfold R64 x1; decide, fun y hy => by cases hy⟩
theorem hE1 : frE x1 (begC t1) = 0 := frE_zero (by unfold x1; decide) (show (0 : Int) ≤ 0 ∧ (0 : Int) ≤ 1073741823 by decide) (Nat.zero_le _) (fun i hi => (begC_inv t1 (-1)).id i hi)
theorem frR1 : frR x1 (begC t1) = [frN x1 (begC t1) 0, frN x1 (begC t1) 1, frN x1 (begC t1) 2, frN x1 (begC t1) 3] := by
 unfold frR
 rw [if_pos hE1]
 rfl
theorem al_strong : (frN x1 (begC t1) 3).vS = true := by
 have h := begC_inv t1 (-1)
 rw [fr_good h rfl hE1 (by decide) (by decide)]
 exact (jud_three hE1 (by decide) (by decide) (vt_all h rfl hE1 (by decide) (by decide))).2.1
theorem al_us {i : Nat} (hi : i < 4) : (frN x1 (begC t1) i).us 0 = 4294967296 := by
 have h := us_within (begC_inv t1 (-1)) rfl hE1 hi (by omega) (show 0 < 3 by decide) (lo := 4294967296) (hi' := 4294967296) (fun s _ _ => ⟨Int.le_refl _, Int.le_refl _⟩)
 omega
theorem al_used : (frN x1 (begC t1) 2).us 0 = 4294967296 := al_us (by decide)
theorem al_used1 : (frN x1 (begC t1) 1).us 0 = 4294967296 := al_us (by decide)
theorem al_place : 0 < ((frN x1 (begC t1) 1).ax 0).X := by
 rw [ax_follow (begC_inv t1 (-1)) rfl hE1 (by decide) (by decide), al_used1]
 show 0 < (stepS ((begN ((1 : Nat) : Int) t1).ax 0) t1 4294967296).X
 rw [begN_at t1 (by decide)]
 decide +kernel
section
variable {f : Operand → Value} {o : Oper}
theorem run_bldT1 (ho : o.op = .build 23 #[(0, .const (.int .i64 4294967296)), (2, .const (.int .i64 4294967296)), (3, .const (.int .i64 429496729600))]) (hc : ∀ v, f (.const v) = v) (w : World) : (execOp f o).run Tryz.prog w = .ok (.value (agV (ntnF t1) 0 4)) w := by
 unfold execOp
 rw [ho]
 simp only [List.map_toArray, List.map_cons, List.map_nil, hc]
 kernel_rfl
theorem run_bldR1 (ho : o.op = .build 27 #[(0, .const (.int .i64 4294967296))]) (hc : ∀ v, f (.const v) = v) (w : World) : (execOp f o).run Tryz.prog w = .ok (.value (agV (fun j => iV (rdA1 0 j)) 0 3)) w := by
 unfold execOp
 rw [ho]
 simp only [List.map_toArray, List.map_cons, List.map_nil, hc]
 kernel_rfl
theorem run_bldR4 {a b c d : Operand} (ho : o.op = .build 28 #[(0, a), (1, b), (2, c), (3, d)]) (ha : f a = agV (fun j => iV (rdA1 0 j)) 0 3) (hb : f b = agV (fun j => iV (rdA1 0 j)) 0 3) (hc : f c = agV (fun j => iV (rdA1 0 j)) 0 3) (hd : f d = agV (fun j => iV (rdA1 0 j)) 0 3) (w : World) : (execOp f o).run Tryz.prog w = .ok (.value (agV (rd4F rdA1) 0 12)) w := by
 unfold execOp
 rw [ho]
 simp only [List.map_toArray, List.map_cons, List.map_nil, ha, hb, hc, hd]
 kernel_rfl
theorem run_bldIn {a : Operand} (ho : o.op = .build 31 #[(0, a), (1, .const (.int .i64 (-1)))]) (ha : f a = agV (rd4F rdA1) 0 12) (hc : ∀ v, f (.const v) = v) (w : World) : (execOp f o).run Tryz.prog w = .ok (.value (agV (ipF rdA1 (-1) (.slice none 0 0)) 0 14)) w := by
 unfold execOp
 rw [ho]
 simp only [List.map_toArray, List.map_cons, List.map_nil, ha, hc]
 kernel_rfl
end
end Go.Proofs.YtdhblehhgpdpdacGreat
namespace Go.Proofs.YtdhblehhgpdpdacGreat
open Go.RowKit
theorem rpF2 (n : Nd) : rpF n 2 = .int .i64 (n.us 0) := rfl
theorem rpF5 (n : Nd) : rpF n 5 = .int .i64 (n.ax 0).X := rfl
theorem rpF9 (n : Nd) : rpF n 9 = .bool n.vS := rfl
set_option maxHeartbeats 2000000 in
theorem alive_any (w : World) : Calls Tryz.prog 12 #[] w fun e w' => e = .returned (.bool true) ∧ Below w.heap.size w w' := by
 refine enterF Tryz.func12 rfl 51 rfl (of_decide_eq_true rfl) (fun A hs hd hb => ?_)
 clear hb
 have H := Cx.start w
 refine c_rs (m_start ?_)
 refine qa ?_
 refine l_nx ?_
 refine c_rs ?_
 refine qg (run_bldT1 rfl (fun _ => rfl) _) ?_
 refine q_c1 (clBegin_ok t1 w t1_ok) ?_
 rintro e w1 ⟨D, rfl, hD, G⟩
 refine ⟨_, rfl, ?_⟩
 replace H := H.plus G
 iterate 4 refine qg (run_bldR1 rfl (fun _ => rfl) _) ?_
 refine qg (run_bldR4 rfl Qv Qv Qv Qv _) ?_
 refine qg (run_bldIn rfl Qv (fun _ => rfl) _) ?_
 have hag : ∀ i, i < 4 → AgRd w1 (D i).1 (D i).2.1 (D i).2.2 := fun i hi => by
  have ho : World.ownsRow _ _ _ _ _ _ _ := H.o0 i hi
  obtain ⟨a3, c3, e, hs3, _⟩ := owns_sr ho
  cases e
  exact hs3
 have hcls : ClsOK ⟨0, fun i => (D i).1⟩ := ⟨R64_zero, fun i hi => by show NdOK (D i).1; rw [hD i hi]; exact begN_okC t1_ok hi⟩
 obtain ⟨p1, p2, p3, p4⟩ := frC_congr (x := x1) (c := begC t1) (fr := 0) (D := D) rfl hD
 have hfr := frame_ok x1 0 D none 0 [] w1 rfl x1_ok hcls hag ⟨fun h => absurd h (Nat.lt_irrefl _), fun _ h => (by cases h)⟩
 change Calls _ _ #[agV (clG 0 D) 0 297, agV (ipF rdA1 (-1) (.slice none 0 0)) 0 14] _ _ at hfr
 refine q_c2 hfr ?_
 clear hfr
 rintro e w2 ⟨D', v, rfl, hD', G2⟩
 refine ⟨_, rfl, ?_⟩
 replace H := H.plus G2
 refine qa ?_
 refine qg (run_ext3A _ rfl Qv _) ?_
 refine qg (run_ext3B _ rfl Qv _) ?_
 refine qg (run_ext3C _ rfl Qv _) ?_
 refine q_al H ?_
 intro w3 H z3
 refine q_sp0 H stP_whole (clG_one _ _) ?_
 intro w4 H z4
 iterate 2 refine qa ?_
 refine l_nx ?_
 refine c_rs ?_
 rw [p4, frR1] at H
 have hrow : World.ownsRow _ _ _ _ _ _ _ := H.o1
 obtain ⟨g, cap, rfl, _, hcell⟩ := rwS_rd hrow (show 0 < 4 by decide) (by decide)
 have eF : (frC x1 ⟨0, fun i => (D i).1⟩).fr = 1 := by rw [p2]; unfold frC; rw [if_pos hE1]; rfl
 have c3 : w4.cell? ⟨g, 0 + 3 * 14 + 9, none⟩ = some (.bool true) := by
  have := hcell 3 _ rfl 9 (by decide)
  rw [this, rpF9, al_strong]
 have c2 : w4.cell? ⟨g, 0 + 2 * 14 + 2 + 0 * 1, none⟩ = some (.int .i64 ((frN x1 (begC t1) 2).us 0)) := by
  have h2 := hcell 2 (frN x1 (begC t1) 2) rfl 2 (by decide)
  rw [show 0 + 2 * 14 + 2 + 0 * 1 = 0 + 2 * 14 + 2 by decide, h2, rpF2]
 have c1 : w4.cell? ⟨g, 0 + 1 * 14 + 5 + 0 * 1, none⟩ = some (.int .i64 ((frN x1 (begC t1) 1).ax 0).X) := by
  have h2 := hcell 1 (frN x1 (begC t1) 1) rfl 5 (by decide)
  rw [show 0 + 1 * 14 + 5 + 0 * 1 = 0 + 1 * 14 + 5 by decide, h2, rpF5]
 refine qa ?_
 refine qg (run_eqlE (b := true) _ _ rfl Qv Qv (decide_eq_true (p1.trans hE1)) _) ?_
 iterate 2 refine qa ?_
 refine qg (LenK.run rfl Qv _) ?_
 refine qg (run_eqlI (b := true) _ _ rfl Qv Qv (decide_eq_true rfl) _) ?_
 refine qg (run_pickT' _ _ _ rfl Qv Qv _) ?_
 iterate 3 refine qa ?_
 refine qg (run_eqlI (b := true) _ _ rfl Qv Qv (decide_eq_true eF) _) ?_
 refine qg (run_pickT' _ _ _ rfl Qv Qv _) ?_
 iterate 2 refine qa ?_
 refine qg (run_ixSC (i := 3) _ _ _ _ rfl SlcK.out SizK.out Qv Qv rfl (show 3 < 4 by decide) _) ?_
 refine qa ?_
 refine qg (run_lodb _ rfl Qv c3) ?_
 refine qg (run_pickT' _ _ _ rfl Qv Qv _) ?_
 iterate 2 refine qa ?_
 refine qg (run_ixSC (i := 2) _ _ _ _ rfl SlcK.out SizK.out Qv Qv rfl (show 2 < 4 by decide) _) ?_
 refine qa ?_
 refine qg (run_ixG (i := 0) _ _ _ _ rfl ArrK.out SizK.out Qv Qv rfl (by decide) _) ?_
 refine qg (run_lodI _ rfl Qv c2) ?_
 refine qg (run_eqlI (b := true) _ _ rfl Qv Qv (decide_eq_true al_used) _) ?_
 refine qg (run_pickT' _ _ _ rfl Qv Qv _) ?_
 iterate 2 refine qa ?_
 refine qg (run_ixSC (i := 1) _ _ _ _ rfl SlcK.out SizK.out Qv Qv rfl (show 1 < 4 by decide) _) ?_
 refine qa ?_
 refine qg (run_ixG (i := 0) _ _ _ _ rfl ArrK.out SizK.out Qv Qv rfl (by decide) _) ?_
 refine qg (run_lodI _ rfl Qv c1) ?_
 refine qg (run_gtrI (b := true) _ _ rfl Qv Qv (decide_eq_true al_place) _) ?_
 refine qg (run_pickT' _ _ _ rfl Qv Qv _) ?_
 refine qa ?_
 refine l_nx ?_
 exact c_ret (ret_of ((defL _ _).trans hd) (res_t rfl Qv) ⟨rfl, H.bel⟩)
end Go.Proofs.YtdhblehhgpdpdacGreat
namespace Go.Proofs.YtdhblehhgpdpdacGreat
open Go.RowKit
def OneB (bad : Int) (L : List Li) : Prop := ∀ c, c ∈ L → c.bad = bad
theorem cK_nd {t : Tn} {L : List Li} (h : InOK L) {k : Nat} {c : Li} (hc : L[k]? = some c) (i : Nat) : (cK t L (k + 1)).nd i = frN c.x (cK t L k) i := by
 have hk := (List.getElem?_eq_some_iff.1 hc).1
 rw [cK_succ hc]
 unfold frC
 rw [if_pos ((cK_ok (t := t) h k (by omega)).2.2 c hc)]
theorem oneM_in {bad : Int} {L : List Li} {n : Nat} (hn : n ≤ 1000) (h : -1 ≤ bad ∧ bad < 4) : InOK (oneM bad L n) := ⟨by unfold oneM; rw [List.length_map, List.length_take]; omega, fun c hc => by
 unfold oneM at hc
 obtain ⟨d, _, rfl⟩ := List.mem_map.1 hc
 refine ⟨h, ?_⟩
 show (d.LL.take 400).length ≤ 400
 rw [List.length_take]; omega⟩
theorem oneM_one {bad : Int} {L : List Li} {n : Nat} : OneB bad (oneM bad L n) := fun c hc => by
 unfold oneM at hc
 obtain ⟨d, _, rfl⟩ := List.mem_map.1 hc
 rfl
theorem oneM_ok {bad : Int} {L : List Li} {n : Nat} {w : World} (h : ∀ c, c ∈ L → LiOK w c) (hb : R64 bad) : ∀ c, c ∈ oneM bad L n → LiOK w c := fun c hc => by
 unfold oneM at hc
 obtain ⟨d, hd, rfl⟩ := List.mem_map.1 hc
 exact oneL_ok (h d (List.mem_of_mem_take hd)) hb
end Go.Proofs.YtdhblehhgpdpdacGreat
namespace Go.Proofs.YtdhblehhgpdpdacGreat
open Go.RowKit
theorem clH_at (d : Int × (Nat → Nd × Ad)) {i j : Nat} (hj : j < 74) : clH d (0 + 1 + i * 74 + j) = ndF (d.2 i).1 (slV (d.2 i).2 (d.2 i).1.vA.length) j := by
 show clG d.1 d.2 _ = _
 rw [show 0 + 1 + i * 74 + j = 1 + i * 74 + j by omega]
 exact clF_nd _ _ _ hj
theorem agRd_of {w : World} {B : Nat} {d : Nd × Ad} (h : (agJ B d).p w) : AgRd w d.1 d.2.1 d.2.2 := by
 obtain ⟨a3, c3, e, hs3, _⟩ := owns_sr h
 cases e
 exact hs3
end Go.Proofs.YtdhblehhgpdpdacGreat
namespace Go.Proofs.YtdhblehhgpdpdacGreat
open Go.RowKit
structure Twn (n m : Nd) : Prop where
 ax : ∀ a, a < 3 → n.ax a = m.ax a
 rl : RlE n.rl m.rl
 ag : ∀ s a, s < 4 → a < 3 → n.ag s a = m.ag s a
 us : ∀ a, a < 3 → n.us a = m.us a
 dg : n.dg = m.dg
 fr : n.fr = m.fr
 vX : n.vX = m.vX
 vS : n.vS = m.vS
 vA : n.vA = m.vA
section
variable {n m : Nd} {v u : Value}
theorem twn_ax (h : Twn n m) : agV (ndF m u) (0 + 6) 21 = agV (fun j => nstF (n.ax (j / 7)) (j % 7)) 0 21 := agV_cong (fun j hj => by rw [ndF_axs m u j hj, h.ax (j / 7) (by omega)])
theorem own_ax : agV (ndF n v) (0 + 6) 21 = agV (fun j => nstF (n.ax (j / 7)) (j % 7)) 0 21 := agV_cong (ndF_axs n v)
theorem twn_rl (h : Twn n m) : agV (ndF m u) (0 + 27) 12 = rollV n.rl := by
 rw [agV_cong (f := nrlF n.rl) (fun j hj => by
  rw [ndF_rl m u j hj]
  unfold nrlF
  by_cases c1 : j < 4
  ·rw [if_pos c1, if_pos c1, (h.rl j c1).1]
  ·rw [if_neg c1, if_neg c1]
   by_cases c2 : j < 8
   ·rw [if_pos c2, if_pos c2, (h.rl (j - 4) (by omega)).2.1]
   ·rw [if_neg c2, if_neg c2, (h.rl (j - 8) (by omega)).2.2])]
 rfl
theorem own_rl : agV (ndF n v) (0 + 27) 12 = rollV n.rl := by
 rw [agV_cong (ndF_rl n v)]
 rfl
theorem twn_ag (h : Twn n m) : agV (ndF m u) (0 + 55) 12 = agV (fun j => iV (n.ag (j / 3) (j % 3))) 0 12 := agV_cong (fun j hj => by rw [ndF_ags m u j hj, h.ag (j / 3) (j % 3) (by omega) (by omega)])
theorem own_ag : agV (ndF n v) (0 + 55) 12 = agV (fun j => iV (n.ag (j / 3) (j % 3))) 0 12 := agV_cong (ndF_ags n v)
theorem twn_us (h : Twn n m) : agV (ndF m u) (0 + 67) 3 = agV (fun j => iV (n.us j)) 0 3 := agV_cong (fun j hj => by rw [ndF_uss m u j hj, h.us j hj])
theorem own_us : agV (ndF n v) (0 + 67) 3 = agV (fun j => iV (n.us j)) 0 3 := agV_cong (ndF_uss n v)
end
set_option maxHeartbeats 2000000 in
theorem twins_any (n m : Nd) (a b : Ad) (w : World) (h : Twn n m) (ha : AgRd w n a.1 a.2) (hb : AgRd w m b.1 b.2) (hl : n.vA.length ≤ 140737488351232) :
  Calls Tryz.prog 13 #[ndV n (slV a n.vA.length), ndV m (slV b m.vA.length)] w fun e w' => e = .returned (.bool true) ∧ Below w.heap.size w w' := by
 refine enterF Tryz.func13 rfl 96 rfl (of_decide_eq_true rfl) (fun A hs hd hb2 => ?_)
 have b0 : A.eval (.tmp 0) = agV (ndF n (slV a n.vA.length)) 0 74 := hb2 0 _ rfl
 have b1 : A.eval (.tmp 1) = agV (ndF m (slV b m.vA.length)) 0 74 := hb2 1 _ rfl
 clear hb2
 have evA := congrArg List.length h.vA
 have H := Cx.start w
 refine c_rs (m_start ?_)
 refine q_box H ?_
 intro w1 H z1
 refine q_box H ?_
 intro w2 H z2
 refine qa ?_
 refine l_nx ?_
 refine c_nx ?_
 refine c_rs ?_
 iterate 4 refine qa ?_
 refine qg (run_neqSt3N (a := n.ax) _ _ rfl (Eq.trans Qv own_ax) (Eq.trans Qv (twn_ax h)) _) ?_
 iterate 5 refine qa ?_
 refine qg (run_neqRlN (r := n.rl) _ _ rfl (Eq.trans Qv own_rl) (Eq.trans Qv (twn_rl h)) _) ?_
 refine qg (run_pickF _ _ _ rfl Qv Qv _) ?_
 iterate 5 refine qa ?_
 refine qg (run_neq43N (g := n.ag) _ _ rfl (Eq.trans Qv own_ag) (Eq.trans Qv (twn_ag h)) _) ?_
 refine qg (run_pickF _ _ _ rfl Qv Qv _) ?_
 iterate 5 refine qa ?_
 refine qg (run_neqI3N (g := n.us) _ _ rfl (Eq.trans Qv own_us) (Eq.trans Qv (twn_us h)) _) ?_
 refine qg (run_pickF _ _ _ rfl Qv Qv _) ?_
 iterate 5 refine qa ?_
 refine qg (run_neqI (b := false) _ _ rfl (u := n.dg) (v := m.dg) Qv Qv (decide_eq_false (fun e => e h.dg)) _) ?_
 refine qg (run_pickF _ _ _ rfl Qv Qv _) ?_
 iterate 5 refine qa ?_
 refine qg (run_neqI (b := false) _ _ rfl (u := n.fr) (v := m.fr) Qv Qv (decide_eq_false (fun e => e h.fr)) _) ?_
 refine qg (run_pickF _ _ _ rfl Qv Qv _) ?_
 iterate 7 refine qa ?_
 refine qg (run_neqI (b := false) _ _ rfl (u := n.vX) (v := m.vX) Qv Qv (decide_eq_false (fun e => e h.vX)) _) ?_
 refine qg (run_pickF _ _ _ rfl Qv Qv _) ?_
 iterate 7 refine qa ?_
 refine qg (run_neqTT _ _ rfl (u := n.vS) (v := m.vS) Qv Qv h.vS _) ?_
 refine qg (run_pickF _ _ _ rfl Qv Qv _) ?_
 iterate 9 refine qa ?_
 refine qg (run_neqI (b := false) _ _ rfl (u := (n.vA.length : Int)) (v := (m.vA.length : Int)) Qv Qv (decide_eq_false (by omega)) _) ?_
 refine qg (run_pickF _ _ _ rfl Qv Qv _) ?_
 refine l_nx ?_
 refine q_no rfl (c_fin ?_)
 refine c_nx ?_
 refine c_rs ?_
 repeat first | refine qa ?_ | refine l_nx ?_
 refine c_block ?_
 refine c_loop (fun r A W => ∃ i : Nat, i ≤ n.vA.length ∧ n.vA.length - i ≤ r ∧ A.tmps.size = 96 ∧ A.defers = [] ∧ A.eval (.tmp 2) = .pointer (some ⟨w.heap.size, 0, none⟩) ∧ A.eval (.tmp 3) = .pointer (some ⟨w1.heap.size, 0, none⟩) ∧ A.eval (.tmp 5) = .int .i64 (i : Int) ∧ Cx w W [vhI 55 w1.heap.size 74 74 (ndF m (slV b m.vA.length)), vhI 55 w.heap.size 74 74 (ndF n (slV a n.vA.length))]) n.vA.length
  ⟨0, Nat.zero_le _, by omega, (szL _ _).trans hs, (defL _ _).trans hd, Qv, Qv, Qv, H⟩ (fun r B W hI => ?_)
 clear b0 b1 hs hd H
 obtain ⟨i, hi, hr, hs, hd, b2, b3, b5, H⟩ := hI
 refine c_nx ?_
 refine c_rs (m_start ?_)
 repeat first | refine qa ?_ | refine l_nx ?_
 refine q_if (fun h1 => ?_) (fun h1 => ?_)
 ·have hin : i < n.vA.length := by have := of_decide_eq_true h1; omega
  refine c_fin ?_
  refine c_nx (c_block ?_)
  refine c_nx ?_
  obtain ⟨ya, ea, hca⟩ : ∃ y, a.1 = some y ∧ ∀ W, Below w.heap.size w W → W.cell? (y.add i) = some (.bool (bA n i)) := by
   rcases ha with ⟨_, e, _⟩ | ⟨y, e, hc⟩
   ·omega
   ·exact ⟨y, e, fun W k => at_below (hc i hin) k⟩
  obtain ⟨yb, eb, hcb⟩ : ∃ y, b.1 = some y ∧ ∀ W, Below w.heap.size w W → W.cell? (y.add i) = some (.bool (bA m i)) := by
   rcases hb with ⟨_, e, _⟩ | ⟨y, e, hc⟩
   ·omega
   ·exact ⟨y, e, fun W k => at_below (hc i (by omega)) k⟩
  replace H := H.drew
  have hS : (fun W' => Its [vhI 55 w1.heap.size 74 74 (ndF m (slV b m.vA.length)), vhI 55 w.heap.size 74 74 (ndF n (slV a n.vA.length))] W' ∧ Below w.heap.size w W') W.drew := ⟨H.its, H.bel⟩
  refine c_rj (S := fun W' => Its [vhI 55 w1.heap.size 74 74 (ndF m (slV b m.vA.length)), vhI 55 w.heap.size 74 74 (ndF n (slV a n.vA.length))] W' ∧ Below w.heap.size w W') (.mv 0 (.mv 1 (.rd 2 (.mv 3 (.mv 4 (.rd 5 (.mv 6 (.mv 7 (.rd 8 (.mv 9 (.mv 10 (.rd 11 (.mv 12 .fin))))))))))))) [] (by kernel_rfl) (by kernel_rfl) ?_
  iterate 2 refine qj ?_
  refine Yr rfl hS (fun _ H => run_lod1 (v := .slice (some ya) n.vA.length a.2) _ _ rfl OneK.out Qv H.1.v1 (by omega) (by rw [← ea]; rfl)) ?_
  refine qj ?_
  refine j_mv rfl rfl (fun _ _ _ h => h) (wanted_rd rfl) (fun w => run_ixTb _ _ rfl Qv Qv rfl hin w) ?_
  refine Yr rfl hS (fun _ H => run_lodb _ rfl Qv (hca _ H.2)) ?_
  iterate 2 refine qj ?_
  refine Yr rfl hS (fun _ H => run_lod1 (v := .slice (some yb) m.vA.length b.2) _ _ rfl OneK.out Qv H.1.v0 (by omega) (by rw [← eb]; rfl)) ?_
  refine qj ?_
  refine j_mv rfl rfl (fun _ _ _ h => h) (wanted_rd rfl) (fun w => run_ixTb _ _ rfl Qv Qv rfl (show i < m.vA.length by omega) w) ?_
  refine Yr rfl hS (fun _ H => run_lodb _ rfl Qv (hcb _ H.2)) ?_
  refine j_mv rfl rfl (fun _ _ _ h => h) (wanted_rd rfl) (fun w => run_neqTT _ _ rfl Qv Qv (by unfold bA; rw [h.vA]) w) ?_
  refine j_nx ?_
  refine q_no rfl (c_finB ?_)
  refine c_region ?_
  repeat refine qa ?_
  exact l_round ⟨n.vA.length - (i + 1), by omega, i + 1, by omega, by omega, (szL _ _).trans hs, (defL _ _).trans hd, Qv, Qv, Eq.trans Qv (by rw [Int.natCast_add]; rfl), H⟩
 ·refine c_exit (x_out' ?_)
  refine c_rs ?_
  repeat first | refine qa ?_ | refine l_nx ?_
  exact c_ret (ret_of ((defL _ _).trans hd) (res_t rfl Qv) ⟨rfl, H.bel⟩)
end Go.Proofs.YtdhblehhgpdpdacGreat
namespace Go.Proofs.YtdhblehhgpdpdacGreat
open Go.RowKit
end Go.Proofs.YtdhblehhgpdpdacGreat
namespace Go.Proofs.YtdhblehhgpdpdacGreat
open Go.RowKit
section
variable {t : Tn} {bad : Int} {L : List Li} {k : Nat} {c : Li}
end
end Go.Proofs.YtdhblehhgpdpdacGreat
namespace Go.Proofs.YtdhblehhgpdpdacGreat
open Go.RowKit
def fitL (bad fr : Int) (y : Ly) : Bool := dcB y.g y.n && decide (((y.g 2 : Nat) : Int) = bad) && decide (((dR y.g : Nat) : Int) = fr) && decide (0 ≤ y.wo ∧ y.wo ≤ 3 ∧ y.wo ≠ bad) && decide (0 ≤ y.ph ∧ y.ph < 5) && decide (((y.g 1 : Nat) : Int) = kdP y.ph.toNat) && decide (y.g 7 = mnP y.ph.toNat)
def kpL (bad fr : Int) : List (Int × Int) → List Ly → List Ly
 | _, [] => []
 | S, y :: l => if fitL bad fr y = true ∧ (y.ph, y.wo) ∉ S then y :: kpL bad fr ((y.ph, y.wo) :: S) l else kpL bad fr S l
theorem liM_cons (bad wo ph : Int) (y : Ly) (l : List Ly) : liM bad wo ph (y :: l) = (if y.ph = ph ∧ y.wo = wo then (dcM y.n y.g).filter fun m => decide (m.F = bad) else []) ++ liM bad wo ph l := rfl
section
variable {bad : Int} {n : Nd} {i k s : Nat}
theorem frst_nil (kind : Int) (many : Nat) : frst n [] s kind many = none := rfl
theorem frst_one (hi : i < 4) (hk : k < 5) (gi : (i : Int) ≠ bad) (hid : n.id = (i : Nat)) (hs : (s : Int) = bad) {y : Ly} (h1 : y.ph = (k : Int)) (h2 : y.wo = (i : Int)) :
  frst n ((dcM y.n y.g).filter fun m => decide (m.F = bad)) s (kdP k) (mnP k) = if fitL bad n.fr y = true then some ((List.range (y.g 7)).map (dV y.g)) else none := by
 have ek : y.ph.toNat = k := by omega
 have c1 : decide (0 ≤ y.wo ∧ y.wo ≤ 3 ∧ y.wo ≠ bad) = true := decide_eq_true ⟨by omega, by omega, by rw [h2]; exact gi⟩
 have c2 : decide (0 ≤ y.ph ∧ y.ph < 5) = true := decide_eq_true ⟨by omega, by omega⟩
 unfold fitL dcM
 rw [ek, c1, c2]
 by_cases c : dcB y.g y.n = true
 ·rw [if_pos c, c]
  by_cases cF : ((y.g 2 : Nat) : Int) = bad
  ·rw [List.filter_cons_of_pos (by exact decide_eq_true cF), List.filter_nil, decide_eq_true cF]
   unfold frst
   rw [List.find?_cons]
   have d1 : decide (((y.g 2 : Nat) : Int) = (s : Int)) = true := decide_eq_true (by rw [hs]; exact cF)
   have d2 : decide (((y.g 2 : Nat) : Int) ≠ n.id) = true := decide_eq_true (by rw [hid, cF]; exact fun e => gi e.symm)
   have d3 : ((List.range (y.g 7)).map (dV y.g)).length = y.g 7 := by rw [List.length_map, List.length_range]
   dsimp only
   rw [d1, d2, d3]
   by_cases cK : ((y.g 1 : Nat) : Int) = kdP k
   ·rw [decide_eq_true cK]
    by_cases cR : ((dR y.g : Nat) : Int) = n.fr
    ·rw [decide_eq_true cR]
     by_cases cm : y.g 7 = mnP k
     ·rw [decide_eq_true cm]; rfl
     ·rw [decide_eq_false cm]; rfl
    ·rw [decide_eq_false cR]; rfl
   ·rw [decide_eq_false cK]
    by_cases cR : ((dR y.g : Nat) : Int) = n.fr
    ·rw [decide_eq_true cR]; rfl
    ·rw [decide_eq_false cR]; rfl
  ·rw [List.filter_cons_of_neg (by exact fun e => cF (of_decide_eq_true e)), List.filter_nil, decide_eq_false cF]
   rfl
 ·rw [if_neg c]
  have c' : dcB y.g y.n = false := by cases h : dcB y.g y.n with | true => exact absurd h c | false => rfl
  rw [c']
  rfl
theorem kp_hear (hi : i < 4) (hk : k < 5) (gi : (i : Int) ≠ bad) (hid : n.id = (i : Nat)) (hs : (s : Int) = bad) : ∀ (l : List Ly) (S : List (Int × Int)), frst n (liM bad i k (kpL bad n.fr S l)) s (kdP k) (mnP k) = if ((k : Int), (i : Int)) ∈ S then none else frst n (liM bad i k l) s (kdP k) (mnP k)
 | [], S => by
  show frst n [] s _ _ = if _ then none else frst n [] s _ _
  rw [frst_nil]
  split <;> rfl
 | y :: l, S => by
  have one := fun (h1 : y.ph = (k : Int)) (h2 : y.wo = (i : Int)) => frst_one (bad := bad) (n := n) (s := s) hi hk gi hid hs h1 h2
  rw [show kpL bad n.fr S (y :: l) = if fitL bad n.fr y = true ∧ (y.ph, y.wo) ∉ S then y :: kpL bad n.fr ((y.ph, y.wo) :: S) l else kpL bad n.fr S l from rfl, liM_cons, frst_app]
  by_cases cF : fitL bad n.fr y = true
  ·by_cases cS : (y.ph, y.wo) ∈ S
   ·rw [if_neg (fun h => h.2 cS), kp_hear hi hk gi hid hs l S]
    by_cases cI : ((k : Int), (i : Int)) ∈ S
    ·rw [if_pos cI, if_pos cI]
    ·rw [if_neg cI, if_neg cI, if_neg (fun h => cI (by rw [← h.1, ← h.2]; exact cS)), frst_nil]
     rfl
   ·rw [if_pos ⟨cF, cS⟩, liM_cons, frst_app, kp_hear hi hk gi hid hs l _]
    by_cases cp : y.ph = (k : Int) ∧ y.wo = (i : Int)
    ·rw [if_pos cp, one cp.1 cp.2, if_pos cF, if_neg (show ¬ ((k : Int), (i : Int)) ∈ S by rw [← cp.1, ← cp.2]; exact cS)]
     rfl
    ·rw [if_neg cp, frst_nil]
     have : ((k : Int), (i : Int)) ∈ (y.ph, y.wo) :: S ↔ ((k : Int), (i : Int)) ∈ S := by
      rw [List.mem_cons]
      refine ⟨fun h => ?_, Or.inr⟩
      rcases h with h | h
      ·exact absurd ⟨(congrArg Prod.fst h).symm, (congrArg Prod.snd h).symm⟩ cp
      ·exact h
     by_cases cI : ((k : Int), (i : Int)) ∈ S
     ·rw [if_pos cI, if_pos (this.2 cI)]; rfl
     ·rw [if_neg cI, if_neg (fun h => cI (this.1 h))]
  ·rw [if_neg (fun h => cF h.1), kp_hear hi hk gi hid hs l S]
   by_cases cp : y.ph = (k : Int) ∧ y.wo = (i : Int)
   ·rw [if_pos cp, one cp.1 cp.2, if_neg cF]
    rfl
   ·rw [if_neg cp, frst_nil]
    rfl
end
theorem run_noise {t : Tn} {bad : Int} {L M : List Li} (h : InOK L) (h' : InOK M) (hb : OneB bad L) (hl : M.length = L.length) (hM : ∀ k c d, L[k]? = some c → M[k]? = some d → d.rd = c.rd ∧ d.bad = bad ∧ d.x.ly = kpL bad (k : Nat) [] c.x.ly) :
  ∀ k, k ≤ L.length → (cK t M k).fr = (cK t L k).fr ∧ ∀ i, i < 4 → (cK t M k).nd i = (cK t L k).nd i
 | 0, _ => ⟨rfl, fun _ _ => rfl⟩
 | k + 1, hk => by
  obtain ⟨i1, i2⟩ := run_noise h h' hb hl hM k (by omega)
  obtain ⟨c, hc⟩ : ∃ c, L[k]? = some c := ⟨_, List.getElem?_eq_getElem (show k < L.length by omega)⟩
  obtain ⟨d, hd⟩ : ∃ d, M[k]? = some d := ⟨_, List.getElem?_eq_getElem (show k < M.length by omega)⟩
  obtain ⟨m1, m2, m3⟩ := hM k c d hc hd
  obtain ⟨f1, _, hE⟩ := cK_ok (t := t) h k (by omega)
  have hE := hE c hc
  have e : c.x.bad = bad := hb c (List.mem_of_getElem? hc)
  have hE' := (cK_ok (t := t) h' k (by omega)).2.2 d hd
  have co := frC_congr (x := d.x) (fr := (cK t M k).fr) (D := fun i => ((cK t M k).nd i, (none, 0))) (c := cK t L k) i1.symm i2
  obtain ⟨q1, q2, q3, _⟩ := co
  have hE2 : frE d.x (cK t L k) = 0 := by rw [← q1]; exact hE'
  rw [cK_succ hc, cK_succ hd]
  have e0 : (⟨(cK t M k).fr, fun i => (cK t M k).nd i⟩ : Cl) = cK t M k := rfl
  refine ⟨q2.trans ?_, fun i hi => (q3 i hi).trans ?_⟩
  ·unfold frC; rw [if_pos hE2, if_pos hE]
  ·unfold frC; rw [if_pos hE2, if_pos hE]
   refine fr_hear hE hE2 m1 (m2.trans e.symm) (fun k' i' hk' hi' gi' n hid hfr s hs => ?_) i hi
   rw [m3, ← f1, ← hfr, e]
   rw [kp_hear hi' hk' (by rw [← e]; exact gi') hid (by rw [← e]; exact hs), if_neg (by simp)]
end Go.Proofs.YtdhblehhgpdpdacGreat
namespace Go.Proofs.YtdhblehhgpdpdacGreat
open Go.RowKit
theorem run_lodX {P : Program} {f : Operand → Value} {o : Oper} {ty : TypeId} {x : Operand} (T : OneC P ty) {b off : Nat} {v : Value} {w : World} (hc : w.cell? ⟨b, off, none⟩ = some v) (ho : o.op = .load ty x) (hx : f x = .pointer (some ⟨b, off, none⟩)) : (execOp f o).run P w = .ok (.value v) w := by
 unfold execOp
 simp only [ho, hx, Instr.loadAt, Instr.sureAddr, loadVar, Sem.run_bind, Sem.run_pure, Result.andThen_ok, T.agg]
 go_simp
instance : ZerK Tryz.prog 53 3 (nvdF 0 false (.slice none 0 0)) := ⟨fun w => by kernel_rfl⟩
theorem run_len {t : Tn} {bad : Int} {L : List Li} (h : InOK L) (hb : OneB bad L) {k : Nat} {c : Li} {l : List Nd} (hc : L[k]? = some c) (hbd : -1 ≤ bad ∧ bad < 4) (e : l = frR c.x (cK t L k)) : (bad < 0 ∧ l.length = 4) ∨ (0 ≤ bad ∧ l.length = 3) := by
 have hk := (List.getElem?_eq_some_iff.1 hc).1
 have hE := (cK_ok (t := t) h k (by omega)).2.2 c hc
 have e2 : c.x.bad = bad := hb c (List.mem_of_getElem? hc)
 rw [e]
 unfold frR
 rw [if_pos hE, List.length_map, e2]
 have : bad = -1 ∨ bad = 0 ∨ bad = 1 ∨ bad = 2 ∨ bad = 3 := by omega
 rcases this with rfl | rfl | rfl | rfl | rfl
 ·exact Or.inl ⟨by decide, by decide⟩
 all_goals exact Or.inr ⟨by decide, by decide⟩
end Go.Proofs.YtdhblehhgpdpdacGreat
namespace Go.Proofs.YtdhblehhgpdpdacGreat
open Go.RowKit
theorem rdc_sr {w : World} {ao : Option Addr} {n cap : Nat} {g : Nat → Value} (h : Sr w ao n cap g) : Rdc w 1 (.slice ao n cap) n (rowV g n) := by
 rcases h with ⟨rfl, rfl, rfl⟩ | ⟨x, rfl, hc⟩
 ·exact Or.inl ⟨rfl, rfl, rfl⟩
 ·refine Or.inr ⟨x, cap, rfl, by unfold rowV; rw [List.length_map, List.length_range, Nat.mul_one], fun j u hj => ?_⟩
  unfold rowV at hj
  have hl := (List.getElem?_eq_some_iff.1 hj).1
  rw [List.length_map, List.length_range] at hl
  rw [List.getElem?_map, List.getElem?_range hl] at hj
  rw [hc j hl]
  exact hj
theorem rowV_oneF {g : Nat → Value} {n : Nat} (h : ∀ i, (g i).oneCell' = true) : ∀ u ∈ rowV g n, u.oneCell' = true := fun u hu => by
 unfold rowV at hu
 obtain ⟨i, _, rfl⟩ := List.mem_map.1 hu
 exact h i
theorem ljF2 (c : Lj) : ljF c 2 = .slice c.ao c.y.n c.cap := rfl
def hdL (bad fr : Int) (y : Ly) : Bool := dcB y.g y.n && decide (((y.g 2 : Nat) : Int) = bad) && decide (((dR y.g : Nat) : Int) = fr) && decide (0 ≤ y.wo) && decide (y.wo ≤ 3) && decide (y.wo ≠ bad)
theorem fit_hd {bad fr : Int} {y : Ly} (h : hdL bad fr y = false) : fitL bad fr y = false := by
 cases hf : fitL bad fr y with
 | false => rfl
 | true =>
  unfold fitL at hf
  unfold hdL at h
  simp only [Bool.and_eq_true, decide_eq_true_eq] at hf
  obtain ⟨⟨⟨⟨⟨⟨a, b⟩, c⟩, d⟩, _⟩, _⟩, _⟩ := hf
  rw [a, decide_eq_true b, decide_eq_true c, decide_eq_true d.1, decide_eq_true d.2.1, decide_eq_true d.2.2] at h
  cases h
theorem fit_at {bad fr : Int} {y : Ly} (h : hdL bad fr y = true) : fitL bad fr y = (decide (0 ≤ y.ph ∧ y.ph < 5) && decide (((y.g 1 : Nat) : Int) = kdP y.ph.toNat) && decide (y.g 7 = mnP y.ph.toNat)) := by
 unfold hdL at h
 simp only [Bool.and_eq_true, decide_eq_true_eq] at h
 obtain ⟨⟨⟨⟨⟨a, b⟩, c⟩, d⟩, e⟩, f⟩ := h
 unfold fitL
 rw [a, decide_eq_true b, decide_eq_true c, decide_eq_true ⟨d, e, f⟩]
 rfl
theorem fit_k {bad fr : Int} {y : Ly} (h : hdL bad fr y = true) {k m : Nat} {kd : Int} (hp : y.ph = (k : Int)) (hk : k < 5) (e1 : kdP k = kd) (e2 : mnP k = m) : fitL bad fr y = (if ((y.g 1 : Nat) : Int) = kd then decide (((y.g 7 : Nat) : Int) = (m : Int)) else false) := by
 have et : y.ph.toNat = k := by omega
 rw [fit_at h, et, e1, e2, decide_eq_true ⟨by omega, by omega⟩]
 by_cases c : ((y.g 1 : Nat) : Int) = kd
 ·rw [if_pos c, decide_eq_true c]
  show decide (y.g 7 = m) = _
  exact decide_eq_decide.2 ⟨fun e => by rw [e], fun e => by omega⟩
 ·rw [if_neg c, decide_eq_false c]; rfl
theorem fit_no {bad fr : Int} {y : Ly} (h : hdL bad fr y = true) (h0 : y.ph ≠ 0) (h1 : y.ph ≠ 1) (h2 : y.ph ≠ 2) (h3 : y.ph ≠ 3) (h4 : y.ph ≠ 4) : fitL bad fr y = false := by
 rw [fit_at h, decide_eq_false (by omega)]
 rfl
set_option maxHeartbeats 4000000 in
theorem fits_any (c : Lj) (bad fr : Int) (w : World) (hb : LbRd w c) :
  Calls Tryz.prog 10 #[agV (ljF c) 0 3, .int .i64 bad, .int .i64 fr] w fun e w' => e = .returned (.bool (fitL bad fr c.y)) ∧ Below w.heap.size w w' := by
 refine enterF Tryz.func10 rfl 103 rfl (of_decide_eq_true rfl) (fun A hs hd hb0 => ?_)
 have b0 : A.eval (.tmp 0) = agV (ljF c) 0 3 := hb0 0 _ rfl
 have b1 : A.eval (.tmp 1) = .int .i64 bad := hb0 1 _ rfl
 have b2 : A.eval (.tmp 2) = .int .i64 fr := hb0 2 _ rfl
 clear hb0
 obtain ⟨hsr, hcn, hln, hg⟩ := hb
 have H := Cx.start w
 refine c_rs (m_start ?_)
 refine q_box H ?_
 clear H
 intro w1 H z1
 refine qa ?_
 refine l_nx ?_
 refine c_rs ?_
 refine qa ?_
 refine qg (run_lod1 _ _ rfl OneK.out Qv H.v0 (by omega) (ljF2 c)) ?_
 refine m_do rfl (wanted_rd rfl) (fun K hK => ?_)
 refine wp_joinA (bytes := 1) rfl inferInstance H.size Qv Qv (World.ownsRow_nil _ _ _ _) (rdc_sr (hsr.below H.bel)) (rowV_oneF (fun _ => rfl)) (by unfold maxLen; omega) (by omega) ?_
 intro v2 w2 h2 k2 f2
 have k2b := below_grown k2 (fun k e => nomatch e)
 replace H := H.call k2b
 refine hK _ _ ?_
 clear hK K
 rw [Nat.zero_add, List.nil_append] at h2
 obtain ⟨a2, c2, rfl, hs2, hc2⟩ := owns_sr h2
 refine q_c1 (wireDecode_ok a2 c.y.n c2 c.y.g w2 hg hln hc2 hs2) ?_
 rintro e w3 ⟨E, v, hE, rfl, o3, k3⟩
 obtain ⟨a3, cv3, rfl, hc3⟩ := rw_slice o3
 replace H := H.call k3
 refine ⟨.tuple #[agV (msF (dN E (c.y.g 1) : Nat) (dN E (c.y.g 2) : Nat) (dN E (dR c.y.g) : Nat) (.slice a3 (dN E (c.y.g 7)) cv3)) 0 4, .int .i64 E], rfl, ?_⟩
 iterate 3 refine qa ?_
 refine q_al H ?_
 clear H
 intro w4 H z4
 refine q_sp0 H stP_whole (msF_one _ _ _ _ _ _) ?_
 clear H
 intro w5 H z5
 refine qa ?_
 refine l_nx ?_
 refine c_nx ?_
 refine c_rs ?_
 refine qa ?_
 by_cases c0 : E ≠ 0
 ·refine qg (run_neqE (b := true) _ _ rfl Qv Qv (decide_eq_true c0) _) ?_
  refine qa ?_
  iterate 4 refine q_skip ?_
  refine qg (run_pickT' _ _ _ rfl Qv Qv _) ?_
  refine qa ?_
  iterate 4 refine q_skip ?_
  refine qg (run_pickT' _ _ _ rfl Qv Qv _) ?_
  refine qa ?_
  iterate 3 refine q_skip ?_
  refine qg (run_pickT' _ _ _ rfl Qv Qv _) ?_
  refine qa ?_
  iterate 3 refine q_skip ?_
  refine qg (run_pickT' _ _ _ rfl Qv Qv _) ?_
  refine qa ?_
  iterate 4 refine q_skip ?_
  refine qg (run_pickT' _ _ _ rfl Qv Qv _) ?_
  refine l_nx ?_
  refine q_yes rfl ?_
  refine c_rs ?_
  refine qa ?_
  refine l_nx ?_
  exact c_ret (r_nx (ret_of ((defL _ _).trans hd) (res_t rfl Qv) ⟨by rw [fit_hd (by unfold hdL; rw [dcB_no hE c0]; rfl)], H.bel⟩))
 have c0 : E = 0 := Decidable.not_not.1 c0
 subst c0
 have hdc := dcB_iff.2 hE
 refine qg (run_neqE (b := false) _ _ rfl Qv Qv rfl _) ?_
 refine qa ?_
 refine qa ?_
 refine qg (run_lod1 _ _ rfl OneK.out Qv H.v0 (by omega) (show _ = Value.int .i64 ((c.y.g 2 : Nat) : Int) from rfl)) ?_
 refine qa ?_
 by_cases c1 : ((c.y.g 2 : Nat) : Int) ≠ bad
 ·refine qg (run_neqI (b := true) _ _ rfl Qv Qv (decide_eq_true c1) _) ?_
  refine qg (run_pickF _ _ _ rfl Qv Qv _) ?_
  refine qa ?_
  iterate 4 refine q_skip ?_
  refine qg (run_pickT' _ _ _ rfl Qv Qv _) ?_
  refine qa ?_
  iterate 3 refine q_skip ?_
  refine qg (run_pickT' _ _ _ rfl Qv Qv _) ?_
  refine qa ?_
  iterate 3 refine q_skip ?_
  refine qg (run_pickT' _ _ _ rfl Qv Qv _) ?_
  refine qa ?_
  iterate 4 refine q_skip ?_
  refine qg (run_pickT' _ _ _ rfl Qv Qv _) ?_
  refine l_nx ?_
  refine q_yes rfl ?_
  refine c_rs ?_
  refine qa ?_
  refine l_nx ?_
  exact c_ret (r_nx (ret_of ((defL _ _).trans hd) (res_t rfl Qv) ⟨by rw [fit_hd (by unfold hdL; rw [hdc, decide_eq_false c1]; rfl)], H.bel⟩))
 refine qg (run_neqI (b := false) _ _ rfl Qv Qv (decide_eq_false c1) _) ?_
 refine qg (run_pickF _ _ _ rfl Qv Qv _) ?_
 replace c1 := Decidable.not_not.1 c1
 refine qa ?_
 refine qa ?_
 refine qg (run_lod1 _ _ rfl OneK.out Qv H.v0 (by omega) (show _ = Value.int .i64 ((dR c.y.g : Nat) : Int) from rfl)) ?_
 refine qa ?_
 by_cases c2 : ((dR c.y.g : Nat) : Int) ≠ fr
 ·refine qg (run_neqI (b := true) _ _ rfl Qv Qv (decide_eq_true c2) _) ?_
  refine qg (run_pickF _ _ _ rfl Qv Qv _) ?_
  refine qa ?_
  iterate 3 refine q_skip ?_
  refine qg (run_pickT' _ _ _ rfl Qv Qv _) ?_
  refine qa ?_
  iterate 3 refine q_skip ?_
  refine qg (run_pickT' _ _ _ rfl Qv Qv _) ?_
  refine qa ?_
  iterate 4 refine q_skip ?_
  refine qg (run_pickT' _ _ _ rfl Qv Qv _) ?_
  refine l_nx ?_
  refine q_yes rfl ?_
  refine c_rs ?_
  refine qa ?_
  refine l_nx ?_
  exact c_ret (r_nx (ret_of ((defL _ _).trans hd) (res_t rfl Qv) ⟨by rw [fit_hd (by unfold hdL; rw [hdc, decide_eq_true c1, decide_eq_false c2]; rfl)], H.bel⟩))
 refine qg (run_neqI (b := false) _ _ rfl Qv Qv (decide_eq_false c2) _) ?_
 refine qg (run_pickF _ _ _ rfl Qv Qv _) ?_
 replace c2 := Decidable.not_not.1 c2
 refine qa ?_
 refine qa ?_
 refine qg (run_lod1 _ _ rfl OneK.out Qv H.v1 (by omega) (show _ = Value.int .i64 c.y.wo from rfl)) ?_
 by_cases c3 : c.y.wo < 0
 ·refine qg (run_lssI (b := true) _ _ rfl Qv Qv (decide_eq_true c3) _) ?_
  refine qg (run_pickF _ _ _ rfl Qv Qv _) ?_
  refine qa ?_
  iterate 3 refine q_skip ?_
  refine qg (run_pickT' _ _ _ rfl Qv Qv _) ?_
  refine qa ?_
  iterate 4 refine q_skip ?_
  refine qg (run_pickT' _ _ _ rfl Qv Qv _) ?_
  refine l_nx ?_
  refine q_yes rfl ?_
  refine c_rs ?_
  refine qa ?_
  refine l_nx ?_
  exact c_ret (r_nx (ret_of ((defL _ _).trans hd) (res_t rfl Qv) ⟨by rw [fit_hd (by unfold hdL; rw [hdc, decide_eq_true c1, decide_eq_true c2, decide_eq_false (show ¬ 0 ≤ c.y.wo by omega)]; rfl)], H.bel⟩))
 refine qg (run_lssI (b := false) _ _ rfl Qv Qv (decide_eq_false c3) _) ?_
 refine qg (run_pickF _ _ _ rfl Qv Qv _) ?_
 refine qa ?_
 refine qa ?_
 refine qg (run_lod1 _ _ rfl OneK.out Qv H.v1 (by omega) (show _ = Value.int .i64 c.y.wo from rfl)) ?_
 by_cases c4 : 3 < c.y.wo
 ·refine qg (run_gtrI (b := true) _ _ rfl Qv Qv (decide_eq_true c4) _) ?_
  refine qg (run_pickF _ _ _ rfl Qv Qv _) ?_
  refine qa ?_
  iterate 4 refine q_skip ?_
  refine qg (run_pickT' _ _ _ rfl Qv Qv _) ?_
  refine l_nx ?_
  refine q_yes rfl ?_
  refine c_rs ?_
  refine qa ?_
  refine l_nx ?_
  exact c_ret (r_nx (ret_of ((defL _ _).trans hd) (res_t rfl Qv) ⟨by rw [fit_hd (by unfold hdL; rw [hdc, decide_eq_true c1, decide_eq_true c2, decide_eq_true (show 0 ≤ c.y.wo by omega), decide_eq_false (show ¬ c.y.wo ≤ 3 by omega)]; rfl)], H.bel⟩))
 refine qg (run_gtrI (b := false) _ _ rfl Qv Qv (decide_eq_false c4) _) ?_
 refine qg (run_pickF _ _ _ rfl Qv Qv _) ?_
 refine qa ?_
 refine qa ?_
 refine qg (run_lod1 _ _ rfl OneK.out Qv H.v1 (by omega) (show _ = Value.int .i64 c.y.wo from rfl)) ?_
 refine qa ?_
 by_cases c5 : c.y.wo = bad
 ·refine qg (run_eqlI (b := true) _ _ rfl Qv Qv (decide_eq_true c5) _) ?_
  refine qg (run_pickF _ _ _ rfl Qv Qv _) ?_
  refine l_nx ?_
  refine q_yes rfl ?_
  refine c_rs ?_
  refine qa ?_
  refine l_nx ?_
  exact c_ret (r_nx (ret_of ((defL _ _).trans hd) (res_t rfl Qv) ⟨by rw [fit_hd (by unfold hdL; rw [hdc, decide_eq_true c1, decide_eq_true c2, decide_eq_true (show 0 ≤ c.y.wo by omega), decide_eq_true (show c.y.wo ≤ 3 by omega), decide_eq_false (fun h => h c5)]; rfl)], H.bel⟩))
 refine qg (run_eqlI (b := false) _ _ rfl Qv Qv (decide_eq_false c5) _) ?_
 refine qg (run_pickF _ _ _ rfl Qv Qv _) ?_
 have hh : hdL bad fr c.y = true := by
  unfold hdL
  rw [hdc, decide_eq_true c1, decide_eq_true c2, decide_eq_true (show 0 ≤ c.y.wo by omega), decide_eq_true (show c.y.wo ≤ 3 by omega), decide_eq_true c5]
  rfl
 refine l_nx ?_
 refine q_no rfl (c_fin ?_)
 refine c_nx ?_
 refine c_rs ?_
 refine qa ?_
 refine qg (run_lod1 _ _ rfl OneK.out Qv H.v1 (by omega) (show _ = Value.int .i64 c.y.ph from rfl)) ?_
 refine l_nx ?_
 refine c_block ?_
 refine c_rs ?_
 by_cases h0 : c.y.ph = 0
 ·refine qg (run_eqlI (b := true) _ _ rfl Qv Qv (decide_eq_true h0) _) ?_
  refine qa ?_
  refine l_nx ?_
  refine q_yes rfl ?_
  refine c_rs ?_
  refine qa ?_
  refine qg (run_lod1 _ _ rfl OneK.out Qv H.v0 (by omega) (show _ = Value.int .i64 ((c.y.g 1 : Nat) : Int) from rfl)) ?_
  by_cases ck : ((c.y.g 1 : Nat) : Int) = 1
  ·refine qg (run_eqlI (b := true) _ _ rfl Qv Qv (decide_eq_true ck) _) ?_
   iterate 2 refine qa ?_
   refine qg (run_lod1 _ _ rfl OneK.out Qv H.v0 (by omega) (show _ = Value.slice a3 (c.y.g 7) cv3 from rfl)) ?_
   refine qa ?_
   refine qg (run_eqlI _ _ rfl Qv Qv rfl _) ?_
   refine qg (run_pickT' _ _ _ rfl Qv Qv _) ?_
   refine qa ?_
   refine l_nx ?_
   exact c_ret (r_bl (r_nx (ret_of ((defL _ _).trans hd) (res_t rfl Qv) ⟨by rw [fit_k hh (k := 0) (m := 3) (kd := 1) h0 (by omega) rfl rfl, if_pos ck]; rfl, H.bel⟩)))
  ·refine qg (run_eqlI (b := false) _ _ rfl Qv Qv (decide_eq_false ck) _) ?_
   refine qa ?_
   iterate 4 refine q_skip ?_
   refine qg (run_pickF _ _ _ rfl Qv Qv _) ?_
   refine qa ?_
   refine l_nx ?_
   exact c_ret (r_bl (r_nx (ret_of ((defL _ _).trans hd) (res_t rfl Qv) ⟨by rw [fit_k hh (k := 0) (m := 3) (kd := 1) h0 (by omega) rfl rfl, if_neg ck], H.bel⟩)))
 refine qg (run_eqlI (b := false) _ _ rfl Qv Qv (decide_eq_false h0) _) ?_
 refine qa ?_
 refine l_nx ?_
 refine q_no rfl ?_
 refine c_rs ?_
 by_cases h1 : c.y.ph = 1
 ·refine qg (run_eqlI (b := true) _ _ rfl Qv Qv (decide_eq_true h1) _) ?_
  refine qa ?_
  refine l_nx ?_
  refine q_yes rfl ?_
  refine c_rs ?_
  refine qa ?_
  refine qg (run_lod1 _ _ rfl OneK.out Qv H.v0 (by omega) (show _ = Value.int .i64 ((c.y.g 1 : Nat) : Int) from rfl)) ?_
  by_cases ck : ((c.y.g 1 : Nat) : Int) = 2
  ·refine qg (run_eqlI (b := true) _ _ rfl Qv Qv (decide_eq_true ck) _) ?_
   iterate 2 refine qa ?_
   refine qg (run_lod1 _ _ rfl OneK.out Qv H.v0 (by omega) (show _ = Value.slice a3 (c.y.g 7) cv3 from rfl)) ?_
   refine qa ?_
   refine qg (run_eqlI _ _ rfl Qv Qv rfl _) ?_
   refine qg (run_pickT' _ _ _ rfl Qv Qv _) ?_
   refine qa ?_
   refine l_nx ?_
   exact c_ret (r_bl (r_nx (ret_of ((defL _ _).trans hd) (res_t rfl Qv) ⟨by rw [fit_k hh (k := 1) (m := 12) (kd := 2) h1 (by omega) rfl rfl, if_pos ck]; rfl, H.bel⟩)))
  ·refine qg (run_eqlI (b := false) _ _ rfl Qv Qv (decide_eq_false ck) _) ?_
   refine qa ?_
   iterate 4 refine q_skip ?_
   refine qg (run_pickF _ _ _ rfl Qv Qv _) ?_
   refine qa ?_
   refine l_nx ?_
   exact c_ret (r_bl (r_nx (ret_of ((defL _ _).trans hd) (res_t rfl Qv) ⟨by rw [fit_k hh (k := 1) (m := 12) (kd := 2) h1 (by omega) rfl rfl, if_neg ck], H.bel⟩)))
 refine qg (run_eqlI (b := false) _ _ rfl Qv Qv (decide_eq_false h1) _) ?_
 refine qa ?_
 refine l_nx ?_
 refine q_no rfl ?_
 refine c_rs ?_
 by_cases h2 : c.y.ph = 2
 ·refine qg (run_eqlI (b := true) _ _ rfl Qv Qv (decide_eq_true h2) _) ?_
  refine qa ?_
  refine l_nx ?_
  refine q_yes rfl ?_
  refine c_rs ?_
  refine qa ?_
  refine qg (run_lod1 _ _ rfl OneK.out Qv H.v0 (by omega) (show _ = Value.int .i64 ((c.y.g 1 : Nat) : Int) from rfl)) ?_
  by_cases ck : ((c.y.g 1 : Nat) : Int) = 3
  ·refine qg (run_eqlI (b := true) _ _ rfl Qv Qv (decide_eq_true ck) _) ?_
   iterate 2 refine qa ?_
   refine qg (run_lod1 _ _ rfl OneK.out Qv H.v0 (by omega) (show _ = Value.slice a3 (c.y.g 7) cv3 from rfl)) ?_
   refine qa ?_
   refine qg (run_eqlI _ _ rfl Qv Qv rfl _) ?_
   refine qg (run_pickT' _ _ _ rfl Qv Qv _) ?_
   refine qa ?_
   refine l_nx ?_
   exact c_ret (r_bl (r_nx (ret_of ((defL _ _).trans hd) (res_t rfl Qv) ⟨by rw [fit_k hh (k := 2) (m := 1) (kd := 3) h2 (by omega) rfl rfl, if_pos ck]; rfl, H.bel⟩)))
  ·refine qg (run_eqlI (b := false) _ _ rfl Qv Qv (decide_eq_false ck) _) ?_
   refine qa ?_
   iterate 4 refine q_skip ?_
   refine qg (run_pickF _ _ _ rfl Qv Qv _) ?_
   refine qa ?_
   refine l_nx ?_
   exact c_ret (r_bl (r_nx (ret_of ((defL _ _).trans hd) (res_t rfl Qv) ⟨by rw [fit_k hh (k := 2) (m := 1) (kd := 3) h2 (by omega) rfl rfl, if_neg ck], H.bel⟩)))
 refine qg (run_eqlI (b := false) _ _ rfl Qv Qv (decide_eq_false h2) _) ?_
 refine qa ?_
 refine l_nx ?_
 refine q_no rfl ?_
 refine c_rs ?_
 by_cases h3 : c.y.ph = 3
 ·refine qg (run_eqlI (b := true) _ _ rfl Qv Qv (decide_eq_true h3) _) ?_
  refine qa ?_
  refine l_nx ?_
  refine q_yes rfl ?_
  refine c_rs ?_
  refine qa ?_
  refine qg (run_lod1 _ _ rfl OneK.out Qv H.v0 (by omega) (show _ = Value.int .i64 ((c.y.g 1 : Nat) : Int) from rfl)) ?_
  by_cases ck : ((c.y.g 1 : Nat) : Int) = 2
  ·refine qg (run_eqlI (b := true) _ _ rfl Qv Qv (decide_eq_true ck) _) ?_
   iterate 2 refine qa ?_
   refine qg (run_lod1 _ _ rfl OneK.out Qv H.v0 (by omega) (show _ = Value.slice a3 (c.y.g 7) cv3 from rfl)) ?_
   refine qa ?_
   refine qg (run_eqlI _ _ rfl Qv Qv rfl _) ?_
   refine qg (run_pickT' _ _ _ rfl Qv Qv _) ?_
   refine qa ?_
   refine l_nx ?_
   exact c_ret (r_bl (r_nx (ret_of ((defL _ _).trans hd) (res_t rfl Qv) ⟨by rw [fit_k hh (k := 3) (m := 4) (kd := 2) h3 (by omega) rfl rfl, if_pos ck]; rfl, H.bel⟩)))
  ·refine qg (run_eqlI (b := false) _ _ rfl Qv Qv (decide_eq_false ck) _) ?_
   refine qa ?_
   iterate 4 refine q_skip ?_
   refine qg (run_pickF _ _ _ rfl Qv Qv _) ?_
   refine qa ?_
   refine l_nx ?_
   exact c_ret (r_bl (r_nx (ret_of ((defL _ _).trans hd) (res_t rfl Qv) ⟨by rw [fit_k hh (k := 3) (m := 4) (kd := 2) h3 (by omega) rfl rfl, if_neg ck], H.bel⟩)))
 refine qg (run_eqlI (b := false) _ _ rfl Qv Qv (decide_eq_false h3) _) ?_
 refine qa ?_
 refine l_nx ?_
 refine q_no rfl ?_
 refine c_rs ?_
 by_cases h4 : c.y.ph = 4
 ·refine qg (run_eqlI (b := true) _ _ rfl Qv Qv (decide_eq_true h4) _) ?_
  refine qa ?_
  refine l_nx ?_
  refine q_yes rfl ?_
  refine c_rs ?_
  refine qa ?_
  refine qg (run_lod1 _ _ rfl OneK.out Qv H.v0 (by omega) (show _ = Value.int .i64 ((c.y.g 1 : Nat) : Int) from rfl)) ?_
  by_cases ck : ((c.y.g 1 : Nat) : Int) = 5
  ·refine qg (run_eqlI (b := true) _ _ rfl Qv Qv (decide_eq_true ck) _) ?_
   iterate 2 refine qa ?_
   refine qg (run_lod1 _ _ rfl OneK.out Qv H.v0 (by omega) (show _ = Value.slice a3 (c.y.g 7) cv3 from rfl)) ?_
   refine qa ?_
   refine qg (run_eqlI _ _ rfl Qv Qv rfl _) ?_
   refine qg (run_pickT' _ _ _ rfl Qv Qv _) ?_
   refine qa ?_
   refine l_nx ?_
   exact c_ret (r_bl (r_nx (ret_of ((defL _ _).trans hd) (res_t rfl Qv) ⟨by rw [fit_k hh (k := 4) (m := 24) (kd := 5) h4 (by omega) rfl rfl, if_pos ck]; rfl, H.bel⟩)))
  ·refine qg (run_eqlI (b := false) _ _ rfl Qv Qv (decide_eq_false ck) _) ?_
   refine qa ?_
   iterate 4 refine q_skip ?_
   refine qg (run_pickF _ _ _ rfl Qv Qv _) ?_
   refine qa ?_
   refine l_nx ?_
   exact c_ret (r_bl (r_nx (ret_of ((defL _ _).trans hd) (res_t rfl Qv) ⟨by rw [fit_k hh (k := 4) (m := 24) (kd := 5) h4 (by omega) rfl rfl, if_neg ck], H.bel⟩)))
 refine qg (run_eqlI (b := false) _ _ rfl Qv Qv (decide_eq_false h4) _) ?_
 refine qa ?_
 refine l_nx ?_
 refine q_no rfl ?_
 refine c_finB ?_
 refine c_rs ?_
 refine qa ?_
 refine l_nx ?_
 exact c_ret (ret_of ((defL _ _).trans hd) (res_t rfl Qv) ⟨by rw [fit_no hh h0 h1 h2 h3 h4], H.bel⟩)
end Go.Proofs.YtdhblehhgpdpdacGreat
namespace Go.Proofs.YtdhblehhgpdpdacGreat
open Go.RowKit
set_option maxRecDepth 100000 in
theorem run_neqRpN {f : Operand → Value} {o : Oper} (x y : Operand) (ho : o.op = .binOp .neq 61 x y 61) {n : Nd} (hx : f x = agV (rpF n) 0 14) (hy : f y = agV (rpF n) 0 14) (w : World) : (execOp f o).run Tryz.prog w = .ok (.value (.bool false)) w := by
 have hx' : f x = .agg #[.int .i64 n.id, .int .i64 n.fr, .int .i64 (n.us 0), .int .i64 (n.us 1), .int .i64 (n.us 2), .int .i64 (n.ax 0).X, .int .i64 (n.ax 1).X, .int .i64 (n.ax 2).X, .int .i64 n.dg, .bool n.vS, .bool (n.rl.I 0), .bool (n.rl.I 1), .bool (n.rl.I 2), .bool (n.rl.I 3)] := hx
 have hy' : f y = .agg #[.int .i64 n.id, .int .i64 n.fr, .int .i64 (n.us 0), .int .i64 (n.us 1), .int .i64 (n.us 2), .int .i64 (n.ax 0).X, .int .i64 (n.ax 1).X, .int .i64 (n.ax 2).X, .int .i64 n.dg, .bool n.vS, .bool (n.rl.I 0), .bool (n.rl.I 1), .bool (n.rl.I 2), .bool (n.rl.I 3)] := hy
 clear hx hy
 have u3 := Tryz.underlying3
 have a3 := Tryz.isAgg3
 have z3 := Tryz.sizeOf3
 have u4 := Tryz.underlying4
 have a4 := Tryz.isAgg4
 have z4 := Tryz.sizeOf4
 have h0 : (Op.equalIn 9999 27 (.agg #[.int .i64 (n.us 0), .int .i64 (n.us 1), .int .i64 (n.us 2)]) (.agg #[.int .i64 (n.us 0), .int .i64 (n.us 1), .int .i64 (n.us 2)])).run Tryz.prog w = .ok true w := run_eqI3 9997 n.us w
 have h1 : (Op.equalIn 9999 27 (.agg #[.int .i64 (n.ax 0).X, .int .i64 (n.ax 1).X, .int .i64 (n.ax 2).X]) (.agg #[.int .i64 (n.ax 0).X, .int .i64 (n.ax 1).X, .int .i64 (n.ax 2).X])).run Tryz.prog w = .ok true w := run_eqI3 9997 (fun j => (n.ax j).X) w
 have h2 : (Op.equalIn 9999 47 (.agg #[.bool (n.rl.I 0), .bool (n.rl.I 1), .bool (n.rl.I 2), .bool (n.rl.I 3)]) (.agg #[.bool (n.rl.I 0), .bool (n.rl.I 1), .bool (n.rl.I 2), .bool (n.rl.I 3)])).run Tryz.prog w = .ok true w := run_eqB4 9997 (n.rl.I 0) (n.rl.I 1) (n.rl.I 2) (n.rl.I 3) w
 have t0 : (n.id == n.id) = true := by simp
 have t1 : (n.fr == n.fr) = true := by simp
 have t2 : (n.dg == n.dg) = true := by simp
 have t3 : (n.vS == n.vS) = true := by simp
 unfold execOp
 rw [ho]
 dsimp only
 rw [hx', hy']
 go_simp
end Go.Proofs.YtdhblehhgpdpdacGreat
