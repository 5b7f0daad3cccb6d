import Derived.Test.YtdhblehhgpdpdaaGreatNear127
import Derived.Test.YtdhblehhgpdpdaaGreatNear101
import Derived.Test.YtdhblehhgpdpdaaGreatNear123
import Derived.Test.YtdhblehhgpdpdaaGreatMemOK
import Derived.Test.YtdhblehhgpdpdaaGreatNear35
import Derived.Test.YtdhblehhgpdpdaaGreatStrByte
import Derived.Test.YtdhblehhgpdpdaaGreatNear54
import Derived.Laws.IdiomCopy
namespace Go.Proofs.YtdhblehhgpdpdaaGreat
open Go.ChangeShapes Go.WideShapes Go.ChangeAt Go.RowKit Go.Joins
set_option maxRecDepth 100000
instance : Inhabited Lj := ⟨⟨⟨0, 0, 0, fun _ => 0⟩, none, 0⟩⟩
instance : Inhabited Li := ⟨⟨fun _ _ => 0, 0, [], none, 0⟩⟩
theorem cellsLyN : Tryz.prog.cellsOf 59 = 3 := by kernel_rfl
theorem bytesLyN : Tryz.prog.bytesOf 59 = 40 := by kernel_rfl
theorem cellsIpN : Tryz.prog.cellsOf 43 = 14 := by kernel_rfl
theorem bytesIpN : Tryz.prog.bytesOf 43 = 128 := by kernel_rfl
theorem cellsU8N : Tryz.prog.cellsOf 57 = 1 := by kernel_rfl
theorem cellsLsN : Tryz.prog.cellsOf 41 = 1 := by kernel_rfl
section
variable {H : Type} {enc : TypeId × Value → H} {w : World} {base : Nat} {held : Bool}
theorem open_many {t e : TypeId} {s bytes : Nat} {α : Type} [Inhabited α] (F : α → Nat → Value) (R : α → Prop) (ht : Tryz.prog.underlying t = some (.slice e)) (hce : Tryz.prog.cellsOf e = s) (hbe : Tryz.prog.bytesOf e = bytes) (hs : 0 < s)
  (op : ∀ fuel cs x, DataW.trod enc Tryz.prog w base (fun _ => true) held fuel e cs = some x → (∀ n ∈ x.1.weights Tryz.prog e, n ≤ reachBytes) → ∃ c, cs.length = s ∧ (∀ j, j < s → cs[j]? = some (F c j)) ∧ R c)
  {fuel : Nat} {v : Value} {x : DataW H × List MemPlace} (h : DataW.trod enc Tryz.prog w base (fun _ => true) held fuel t [v] = some x) (hsz : ∀ n ∈ x.1.weights Tryz.prog t, n ≤ reachBytes) :
  ∃ (mo : Option Addr) (mc : Nat) (L : List α), v = .slice mo L.length mc ∧ RdS F s w mo L ∧ (∀ c, c ∈ L → R c) ∧ L.length * bytes ≤ reachBytes ∧ L.length ≤ mc := by
 rcases Go.Deep.open_slice ht h with ⟨hcs, _⟩ | ⟨a, len, c, m, n, D, Pl, hcs, _, hl, hm, hmm, ex, hx⟩
 ·simp at hcs
  exact ⟨none, 0, [], hcs, fun h => absurd h (by simp), fun _ h => absurd h (by simp), by show 0 * _ ≤ _; omega, Nat.le_refl _⟩
 ·simp at hcs
  subst hcs
  simp only [if_true] at hmm
  subst hmm
  have ex1 : x.1 = .slice ((List.range len).map D) ((List.range (m - len)).map fun j => D (len + j)) := congrArg Prod.fst ex
  have hw : ∀ i, i < len → ∀ k ∈ (D i).weights Tryz.prog e, k ≤ reachBytes := fun i hi k hk => hsz k (by
   rw [ex1]
   simp only [DataW.weights, ht]
   exact List.mem_cons_of_mem _ (List.mem_append.2 (Or.inl (weightsAll_memN (List.mem_map.2 ⟨i, List.mem_range.2 hi, rfl⟩) k hk))))
  have hb : m * bytes ≤ reachBytes := hsz _ (by
   rw [ex1]
   simp only [DataW.weights, ht, hbe]
   refine List.mem_cons.2 (Or.inl ?_)
   rw [List.length_map, List.length_map, List.length_range, List.length_range]
   congr 1
   omega)
  obtain ⟨G, hG⟩ := Go.Deep.choose_lt (α := α) (n := len) (p := fun i c => (∀ k, k < s → w.cell? ((a.add (i * s)).add k) = some (F c k)) ∧ R c) (fun i hi => by
   obtain ⟨cs', h1, h2⟩ := hx i (by omega)
   rw [hce] at h1
   obtain ⟨cc, e, h3, h4⟩ := op _ _ _ h2 (hw i hi)
   refine ⟨cc, fun k hk => ?_, h4⟩
   obtain ⟨_, _, hcc⟩ := World.cells?_some h1
   rw [hcc k hk, h3 k hk])
  have el : ((List.range len).map G).length = len := by simp
  have hat : ∀ i c, ((List.range len).map G)[i]? = some c → i < len ∧ c = G i := fun i c hi => by
   have hlt : i < len := by have := (List.getElem?_eq_some_iff.1 hi).1; rw [el] at this; exact this
   rw [List.getElem?_map, List.getElem?_range hlt] at hi
   exact ⟨hlt, (Option.some.inj hi).symm⟩
  refine ⟨some a, m, (List.range len).map G, by rw [el], fun hl0 => ?_, fun c hc => ?_, by rw [el]; exact Nat.le_trans (Nat.mul_le_mul_right _ hl) hb, by rw [el]; exact hl⟩
  ·rw [el] at hl0
   obtain ⟨b, o, spot⟩ := a
   have hn : spot = none := by
    have h0 : w.cell? (((⟨b, o, spot⟩ : Addr).add (0 * s)).add 0) = some (F (G 0) 0) := (hG 0 hl0).1 0 hs
    simpa [Addr.add] using World.cell?_spot h0
   subst hn
   refine ⟨b, o, rfl, fun i c hi k hk => ?_⟩
   obtain ⟨hlt, rfl⟩ := hat i c hi
   have := (hG i hlt).1 k hk
   rw [Addr.add_lit, Addr.add_lit] at this
   exact this
  ·obtain ⟨i, hi⟩ := List.getElem?_of_mem hc
   obtain ⟨hlt, rfl⟩ := hat i c hi
   exact (hG i hlt).2
theorem open_ljC (fuel : Nat) (cs : List Value) (x : DataW H × List MemPlace) (h : DataW.trod enc Tryz.prog w base (fun _ => true) held fuel 59 cs = some x) (hsz : ∀ n ∈ x.1.weights Tryz.prog 59, n ≤ reachBytes) :
  ∃ c : Lj, cs.length = 3 ∧ (∀ j, j < 3 → cs[j]? = some (ljF c j)) ∧ LbRd w c := by
 obtain ⟨xs, n, _, ex, hl, hlen, hf⟩ := DataW.trod_struct Tryz.underlying59 h
 rw [cellsLyN] at hl
 match cs, hl with
 | [c0, c1, c2], _ =>
  match xs, hlen with
  | [y0, y1, y2], _ =>
   have g0 : DataW.trod enc Tryz.prog w base (fun _ => true) held n 3 (List.take (Tryz.prog.cellsOf 3) [c0, c1, c2]) = some y0 := hf 0 _ rfl
   have g1 : DataW.trod enc Tryz.prog w base (fun _ => true) held n 3 (List.take (Tryz.prog.cellsOf 3) [c1, c2]) = some y1 := hf 1 _ rfl
   have g2 : DataW.trod enc Tryz.prog w base (fun _ => true) held n 57 (List.take (Tryz.prog.cellsOf 57) [c2]) = some y2 := hf 2 _ rfl
   rw [cellsIntN] at g0 g1
   rw [cellsU8N] at g2
   obtain ⟨a0, q0, _, w0⟩ := DataW.trod_int Tryz.underlying3 (show DataW.trod enc Tryz.prog w base (fun _ => true) held n 3 [c0] = some y0 from g0)
   obtain ⟨a1, q1, _, w1⟩ := DataW.trod_int Tryz.underlying3 (show DataW.trod enc Tryz.prog w base (fun _ => true) held n 3 [c1] = some y1 from g1)
   simp at q0 q1
   subst q0 q1
   have g2' : DataW.trod enc Tryz.prog w base (fun _ => true) held n 57 [c2] = some y2 := g2
   obtain ⟨ao, len, cap, g, rfl, ha⟩ := open_bytes g2' (fun k hk => hsz k (by
    rw [ex]
    simp only [DataW.weights, Tryz.underlying59, List.map, DataW.weightsEach]
    simp only [List.mem_append]
    exact Or.inr (Or.inr (Or.inl hk))))
   refine ⟨⟨⟨a0, a1, len, g⟩, ao, cap⟩, rfl, fun j hj => ?_, ha.1, ha.2.2.2, ha.2.1, ha.2.2.1⟩
   match j, hj with
   | 0, _ => rfl
   | 1, _ => rfl
   | 2, _ => rfl
end
end Go.Proofs.YtdhblehhgpdpdaaGreat
namespace Go.Proofs.YtdhblehhgpdpdaaGreat
open Go.ChangeShapes Go.WideShapes Go.ChangeAt Go.RowKit Go.Joins
set_option maxRecDepth 100000
section
variable {H : Type} {enc : TypeId × Value → H} {w : World} {base : Nat} {held : Bool}
theorem open_liC2 (fuel : Nat) (cs : List Value) (x : DataW H × List MemPlace) (h : DataW.trod enc Tryz.prog w base (fun _ => true) held fuel 43 cs = some x) (hsz : ∀ n ∈ x.1.weights Tryz.prog 43, n ≤ reachBytes) :
  ∃ c : Li, cs.length = 14 ∧ (∀ j, j < 14 → cs[j]? = some (inpF c j)) ∧ LiOK w c ∧ c.LL.length * 40 ≤ 140737488351232 := by
 obtain ⟨xs, m, _, ex, hl, hlen, hx⟩ := DataW.trod_struct Tryz.underlying43 h
 have hl : cs.length = 14 := hl.trans cellsIpN
 have hlen : xs.length = 3 := hlen
 have p0 := flat_part (n := 12) Tryz.underlying43 (i := 0) rfl flat_i43 h
 have p1 := flat_part (n := 1) Tryz.underlying43 (i := 1) rfl flat_int h
 have h2 := hx 2 _ rfl
 rw [List.getElem?_eq_getElem (by omega)] at h2
 obtain ⟨y, ey⟩ : ∃ y, y = xs[2] := ⟨_, rfl⟩
 rw [← ey] at h2
 have h2' : DataW.trod enc Tryz.prog w base (fun _ => true) held m 41 ((cs.drop 13).take (Tryz.prog.cellsOf 41)) = some y := h2
 rw [cellsLsN] at h2'
 obtain ⟨c0, ec⟩ : ∃ c0, (cs.drop 13).take 1 = [c0] := by
  have : ((cs.drop 13).take 1).length = 1 := by rw [List.length_take, List.length_drop, hl]; rfl
  match hq : (cs.drop 13).take 1, this with
  | [c0], _ => exact ⟨c0, rfl⟩
 rw [ec] at h2'
 have hg : cs[13]? = some c0 := by rw [show (13 : Nat) = 13 + 0 from rfl, ← drop_take_get (n := 1) (by omega), ec]; rfl
 obtain ⟨lo, lc, LL, rfl, hr, hR, hb, hc⟩ := open_many ljF (LbRd w) Tryz.underlying41 cellsLyN bytesLyN (by omega) open_ljC h2' (fun n hn => hsz n (by
  rw [ex]
  simp only [DataW.weights, Tryz.underlying43]
  exact DataW.weights_mem_each (j := 2) (t := 41) (d := y.1) rfl (by rw [List.getElem?_map, List.getElem?_eq_getElem (by omega), ← ey]; rfl) n hn))
 have hk : ∀ j, j < 13 → CellK false (cs.getD j (.int .i64 0)) := fun j hj => by
  by_cases r0 : j < 12
  ·exact cells_of (o := 0) (K2 := fun _ => false) p0 (by omega) (by omega) (by omega) rfl
  ·exact cells_of (o := 12) (K2 := fun _ => false) p1 (by omega) (by omega) (by omega) rfl
 have hR64 : ∀ j, R64 (vI (cs.getD j (.int .i64 0))) := fun j => by
  by_cases hj : j < 13
  ·exact (hk j hj).R
  by_cases hj2 : j = 13
  ·rw [hj2, List.getD_eq_getElem?_getD, hg]; exact R64_nought
  ·rw [List.getD_eq_getElem?_getD, List.getElem?_eq_none (by omega)]; exact R64_nought
 have hat : ∀ j, j < 14 → cs[j]? = some (cs.getD j (.int .i64 0)) := fun j hj => by rw [List.getD_eq_getElem?_getD, List.getElem?_eq_getElem (by omega)]; rfl
 refine ⟨⟨fun s a => vI (cs.getD (s * 3 + a) (.int .i64 0)), vI (cs.getD 12 (.int .i64 0)), LL, lo, lc⟩, hl, fun j hj => ?_, ⟨⟨⟨fun s a => hR64 _, hR64 _, fun y hy i => ?_⟩, ⟨hr, hR⟩, hc⟩, hb⟩⟩
 ·unfold inpF ipF
  dsimp only
  by_cases r0 : j < 12
  ·rw [if_pos r0, show j / 3 * 3 + j % 3 = j by omega, (hk j (by omega)).i]
   exact hat j hj
  by_cases r1 : j = 12
  ·rw [if_neg r0, if_pos r1, (hk 12 (by omega)).i, r1]
   exact hat 12 (by omega)
  ·rw [if_neg r0, if_neg r1, show j = 13 by omega]
   exact hg
 ·obtain ⟨c, hcm, rfl⟩ := List.mem_map.1 hy
  exact (hR c hcm).2.2.2 i
theorem open_inpsArg2 {r : Reach} {b0 : Nat} {v : Value} {d : DataW H} {p : List MemPlace} (hv : Value.okWide Tryz.prog w r b0 49 v) (h : DataW.Trod enc Tryz.prog w base (fun _ => true) held 49 v d p) (hsz : ∀ n ∈ d.weights Tryz.prog 49, n ≤ reachBytes) :
  ∃ (mo : Option Addr) (mc : Nat) (L : List Li), v = .slice mo L.length mc ∧ RdS inpF 14 w mo L ∧ (∀ c, c ∈ L → LiOK w c ∧ c.LL.length * 40 ≤ 140737488351232) ∧ L.length * 128 ≤ reachBytes ∧ L.length ≤ mc := by
 obtain ⟨ao, len, cap, rfl⟩ := okWide_slice Tryz.underlying49 hv
 obtain ⟨fuel, hf⟩ := h
 have hf' : DataW.trod enc Tryz.prog w base (fun _ => true) held fuel 49 [.slice ao len cap] = some (d, p) := hf
 exact open_many inpF (fun c => LiOK w c ∧ c.LL.length * 40 ≤ 140737488351232) Tryz.underlying49 cellsIpN bytesIpN (by omega) open_liC2 hf' hsz
end
end Go.Proofs.YtdhblehhgpdpdaaGreat
namespace Go.Proofs.YtdhblehhgpdpdaaGreat
open Go.RowKit
def RlE (r s : Rl) : Prop := ∀ j, j < 4 → r.I j = s.I j ∧ r.M j = s.M j ∧ r.J j = s.J j
theorem RlE.symm {r s : Rl} (h : RlE r s) : RlE s r := fun j hj => ⟨(h j hj).1.symm, (h j hj).2.1.symm, (h j hj).2.2.symm⟩
theorem RlE.trans {r s t : Rl} (h : RlE r s) (h' : RlE s t) : RlE r t := fun j hj => ⟨(h j hj).1.trans (h' j hj).1, (h j hj).2.1.trans (h' j hj).2.1, (h j hj).2.2.trans (h' j hj).2.2⟩
theorem RlE.refl (r : Rl) : RlE r r := fun _ _ => ⟨rfl, rfl, rfl⟩
section
variable {x : Ip} {c : Cl}
end
structure Inv (t : Tn) (bad : Int) (c : Cl) : Prop where
 id : ∀ i, i < 4 → (c.nd i).id = (i : Nat)
 tn : ∀ i, i < 4 → (c.nd i).tn = t
 ax : ∀ i k : Nat, i < 4 → k < 4 → (i : Int) ≠ bad → (k : Int) ≠ bad → ∀ a, a < 3 → (c.nd i).ax a = (c.nd k).ax a
 rl : ∀ i k : Nat, i < 4 → k < 4 → (i : Int) ≠ bad → (k : Int) ≠ bad → RlE (c.nd i).rl (c.nd k).rl
 gd : ∀ i : Nat, i < 4 → (i : Int) ≠ bad → gdA (c.nd i).rl = true
 on : ∀ i s : Nat, i < 4 → s < 4 → (i : Int) ≠ bad → (s : Int) ≠ bad → (c.nd i).rl.I s = true ∧ (c.nd i).rl.M s = 0
theorem begN_at (t : Tn) {i : Nat} (hi : i < 4) : begN (i : Nat) t = { zeroN with id := (i : Nat), tn := t, ax := fun _ => St.beg0, rl := beginR } := by
 unfold begN; rw [if_neg (by rw [noN_at hi]; decide)]
section
variable {t : Tn} {bad : Int} {x : Ip} {c : Cl}
end
end Go.Proofs.YtdhblehhgpdpdaaGreat
namespace Go.Proofs.YtdhblehhgpdpdaaGreat
open Go.RowKit
section
variable {t : Tn} {bad : Int} {x : Ip} {c : Cl}
end
section
variable {x : Ip} {c : Cl}
end
section
variable {n : Nd} {l m : List Ms}
end
end Go.Proofs.YtdhblehhgpdpdaaGreat
namespace Go.Proofs.YtdhblehhgpdpdaaGreat
open Go.RowKit
structure Al (t : Tn) (b : Nat) (q : Nat) (c : Cl) : Prop where
 id : ∀ i, i < 4 → (c.nd i).id = (i : Nat)
 tn : ∀ i, i < 4 → (c.nd i).tn = t
 ax : ∀ i k : Nat, i < 4 → k < 4 → ∀ a, a < 3 → (c.nd i).ax a = (c.nd k).ax a
 rl : ∀ i k : Nat, i < 4 → k < 4 → RlE (c.nd i).rl (c.nd k).rl
 gd : ∀ i : Nat, i < 4 → gdA (c.nd i).rl = true
 on : ∀ i s : Nat, i < 4 → s < 4 → s ≠ b → (c.nd i).rl.I s = true ∧ (c.nd i).rl.M s = 0
 jn : ∀ i, i < 4 → ((c.nd i).rl.I b = true) ∨ (q : Int) ≤ (c.nd i).rl.J b
section
variable {t : Tn} {b : Nat} {x : Ip} {c : Cl}
end
end Go.Proofs.YtdhblehhgpdpdaaGreat
namespace Go.Proofs.YtdhblehhgpdpdaaGreat
open Go.RowKit
def listI {α : Type} (f : α → It) (L : List α) : It := ⟨fun w => ∀ x, x ∈ L → (f x).p w, fun k => ∃ x, x ∈ L ∧ (f x).foot k, fun h e x hx => (f x).ok (h x hx) (fun k h1 h2 => e k h1 ⟨x, hx, h2⟩), fun h ⟨x, hx, e⟩ => (f x).lt (h x hx) e⟩
theorem list_push {α : Type} {f : α → It} {L : List α} {y : α} {w0 w : World} {l : List It} (H : Cx w0 w (f y :: listI f L :: l)) : Cx w0 w (listI f (L ++ [y]) :: l) := by
 refine H.merge.wk (fun h x hx => ?_) (fun k ⟨x, hx, hk⟩ => ?_)
 ·rcases List.mem_append.1 hx with hx | hx
  ·exact h.2 x hx
  ·simp only [List.mem_cons, List.not_mem_nil, or_false] at hx
   rw [hx]; exact h.1
 ·rcases List.mem_append.1 hx with hx | hx
  ·exact Or.inr ⟨x, hx, hk⟩
  ·simp only [List.mem_cons, List.not_mem_nil, or_false] at hx
   rw [hx] at hk; exact Or.inl hk
theorem Cx.plus {w0 w w' : World} {l m : List It} (H : Cx w0 w l) (G : Cx w w' m) : Cx w0 w' (m ++ l) := by
 have H' := H.call G.bel
 have hs := H.size
 refine ⟨H'.bel, fun x hx => ?_, fun x hx k hk => ?_, List.pairwise_append.2 ⟨G.dis, H.dis, fun x hx y hy k h1 h2 => ?_⟩⟩
 ·rcases List.mem_append.1 hx with hx | hx
  ·exact G.it x hx
  ·exact H'.it x hx
 ·rcases List.mem_append.1 hx with hx | hx
  ·have := G.up x hx k hk; omega
  ·exact H.up x hx k hk
 ·have h3 := G.up x hx k h1
  have h4 := y.lt (H.it y hy) h2
  omega
theorem agI_base {w0 w : World} {B C : Nat} {D : Nat → Nd × Ad} {l : List It} (H : Cx w0 w (agI B D :: l)) (h : C ≤ B) : Cx w0 w (agI C D :: l) := H.wk (fun h1 i hi => rw_base (h1 i hi) h) (fun _ h => h)
def clH (d : Int × (Nat → Nd × Ad)) : Nat → Value := clG d.1 d.2
theorem frC_congr {x : Ip} {fr : Int} {D : Nat → Nd × Ad} {c : Cl} (hf : c.fr = fr) (hn : ∀ i, i < 4 → (D i).1 = c.nd i) : frE x ⟨fr, fun i => (D i).1⟩ = frE x c ∧ (frC x ⟨fr, fun i => (D i).1⟩).fr = (frC x c).fr ∧ (∀ i, i < 4 → (frC x ⟨fr, fun i => (D i).1⟩).nd i = (frC x c).nd i) ∧ frR x ⟨fr, fun i => (D i).1⟩ = frR x c := by
 have hk : ∀ k, ∀ i, i < 4 → (wkK x ⟨fr, fun i => (D i).1⟩ k).nd i = (wkK x c k).nd i ∧ (wkK x ⟨fr, fun i => (D i).1⟩ k).bx i = (wkK x c k).bx i := by
  intro k
  induction k with
  | zero => exact fun i hi => ⟨hn i hi, rfl⟩
  | succ k ih =>
   intro i hi
   obtain ⟨h1, h2⟩ := ih i hi
   refine ⟨?_, ?_⟩
   ·show wkN x fr _ k i = wkN x c.fr _ k i
    rw [hf]
    exact (wkN_of h1 h2).1
   ·show bxM x _ i k 4 = bxM x _ i k 4
    refine bxM_congr fun j hj => ?_
    obtain ⟨h3, h4⟩ := ih j hj
    show wkM x fr _ k j = wkM x c.fr _ k j
    rw [hf]
    exact (wkN_of h3 h4).2
 have hN : ∀ i, i < 4 → frN x ⟨fr, fun i => (D i).1⟩ i = frN x c i := fun i hi => by
  unfold frN
  rw [(hk 5 i hi).1, (hk 5 i hi).2]
  show (if _ then (D i).1 else _) = _
  rw [hn i hi]
 have hE : frE x ⟨fr, fun i => (D i).1⟩ = frE x c := by
  unfold frE
  dsimp only
  simp only [hf, hn 0 (by omega), hn 1 (by omega), hn 2 (by omega), hn 3 (by omega)]
 refine ⟨hE, ?_, fun i hi => ?_, ?_⟩
 ·unfold frC
  rw [hE]
  split
  ·show fr + 1 = c.fr + 1; rw [hf]
  ·rfl
 ·unfold frC
  rw [hE]
  split
  ·exact hN i hi
  ·rfl
 ·unfold frR
  rw [hE]
  split
  ·refine List.map_congr_left fun i hi => hN i ?_
   unfold gdL at hi
   exact List.mem_range.1 (List.mem_filter.1 hi).1
  ·rfl
end Go.Proofs.YtdhblehhgpdpdaaGreat
namespace Go.Proofs.YtdhblehhgpdpdaaGreat
open Go.RowKit
def rK (t : Tn) (L : List Li) (k : Nat) : Rn := ((L.take k).map Li.x).foldl rnS ⟨begC t, [], 0⟩
theorem rK_succ {t : Tn} {L : List Li} {k : Nat} {c : Li} (h : L[k]? = some c) : rK t L (k + 1) = rnS (rK t L k) c.x := by
 unfold rK
 rw [List.take_add_one, h, List.map_append, List.foldl_append]
 rfl
theorem rn_stop {s : Rn} (h : s.e ≠ 0) : ∀ l : List Ip, l.foldl rnS s = s
 | [] => rfl
 | x :: l => by
  show l.foldl rnS (rnS s x) = s
  have : rnS s x = s := by unfold rnS; rw [if_neg h]
  rw [this]
  exact rn_stop h l
theorem rK_end {t : Tn} {L : List Li} (hl : L.length ≤ 200) {k : Nat} (h : L.length ≤ k ∨ (rK t L k).e ≠ 0) : rnF t (L.map Li.x) = rK t L k := by
 unfold rnF
 rw [if_neg (by rw [List.length_map]; omega)]
 have e : L.map Li.x = (L.take k).map Li.x ++ (L.drop k).map Li.x := by rw [← List.map_append, List.take_append_drop]
 rw [e, List.foldl_append]
 show ((L.drop k).map Li.x).foldl rnS (rK t L k) = _
 rcases h with h | h
 ·rw [List.drop_of_length_le h]; rfl
 ·exact rn_stop h _
theorem rnS_ok {s : Rn} {x : Ip} (h : s.e = 0) (hE : frE x s.c = 0) : rnS s x = ⟨frC x s.c, s.r ++ frR x s.c, 0⟩ := by unfold rnS; rw [if_pos h, if_pos hE]
theorem rnS_no {s : Rn} {x : Ip} (h : s.e = 0) (hE : frE x s.c ≠ 0) : rnS s x = ⟨zeroC, [], frE x s.c⟩ := by unfold rnS; rw [if_pos h, if_neg hE]
def RuC (fn : Nat) : Prop := ∀ (t : Tn) (mo : Option Addr) (mc : Nat) (L : List Li) (w : World), t.Ok → RdS inpF 14 w mo L → (∀ c, c ∈ L → LiOK w c) →
 Calls Tryz.prog fn #[agV (ntnF t) 0 4, .slice mo L.length mc] w fun e w' => ∃ (D : Nat → Nd × Ad) (v : Value), e = .returned (.tuple #[agV (clG (rnF t (L.map Li.x)).c.fr D) 0 297, v, .int .i64 (rnF t (L.map Li.x)).e]) ∧ (∀ i, i < 4 → (D i).1 = (rnF t (L.map Li.x)).c.nd i) ∧ Cx w w' [ownI w.heap.size 96 14 v (rnF t (L.map Li.x)).r.length (rwS rpF 14 (rnF t (L.map Li.x)).r), agI w.heap.size D]
theorem frR_len (x : Ip) (c : Cl) : (frR x c).length ≤ 4 := by
 unfold frR
 split
 ·rw [List.length_map]
  unfold gdL
  exact Nat.le_trans (List.length_filter_le _ _) (by simp)
 ·exact Nat.zero_le _
set_option maxHeartbeats 2000000 in
theorem clRun_ok : RuC 14 := by
 intro t mo mc L w ht hr hok
 refine enterF Tryz.func14 rfl 44 rfl (of_decide_eq_true rfl) (fun A hs hd hb => ?_)
 have b0 : A.eval (.tmp 0) = agV (ntnF t) 0 4 := hb 0 _ rfl
 have b1 : A.eval (.tmp 1) = .slice mo L.length mc := hb 1 _ rfl
 clear hb
 have H := Cx.start w
 refine c_rs (m_start ?_)
 refine q_box H ?_
 intro w1 H z1
 refine q_al H ?_
 intro w2 H z2
 iterate 2 refine qa ?_
 refine l_nx ?_
 refine c_nx ?_
 refine c_rs ?_
 iterate 3 refine qa ?_
 refine l_nx ?_
 refine q_if (fun h => ?_) (fun h => ?_)
 ·have hl : 200 < L.length := by have := of_decide_eq_true h; omega
  have eF : rnF t (L.map Li.x) = ⟨zeroC, [], 6⟩ := by unfold rnF; rw [if_pos (by rw [List.length_map]; exact hl)]
  refine c_rs ?_
  refine qg (run_bldC0 rfl _) ?_
  refine q_sp0 H stP_whole (clF_one _ _ _ _) ?_
  intro w3 H z3
  repeat first | refine qa ?_ | refine l_nx ?_
  refine c_ret (r_nx (ret_of ((defL _ _).trans hd) (res_ctt rfl Qv Qv Qv ManyK.out H.v0 (Nat.le_refl _)) ⟨fun _ => (zeroN, (none, 0)), _, by rw [eF]; rfl, fun i hi => by rw [eF]; rfl, ?_⟩))
  rw [eF]
  exact ((H.tl.tl.add (Below.refl _ _) (agI w.heap.size (fun _ => (zeroN, (none, 0)))) (fun _ _ => World.ownsRow_nil _ _ _ _) (fun j ⟨_, _, e⟩ => absurd e (fun e => nomatch e))).add (Below.refl _ _) (ownI _ _ _ _ _ _) (World.ownsRow_nil _ _ _ _) (fun j e => nomatch e))
 have hl : L.length ≤ 200 := by have := of_decide_eq_false h; omega
 refine c_fin ?_
 refine c_rs ?_
 refine qa ?_
 have hsz := H.size
 refine q_c1 (clBegin_ok t w2 ht) ?_
 rintro e w3 ⟨D0, rfl, hD0, G⟩
 refine ⟨_, rfl, ?_⟩
 replace H := agI_base (H.plus G) hsz
 refine q_al H ?_
 intro w4 H z4
 refine q_sp0 H stP_whole (clG_one _ _) ?_
 intro w5 H z5
 refine l_nx ?_
 refine c_rs ?_
 refine qa ?_
 refine l_nx ?_
 refine c_nx ?_
 refine c_rs ?_
 iterate 3 refine qa ?_
 refine l_nx ?_
 refine c_block ?_
 have z0 : (rK t L 0).c.fr = 0 ∧ (rK t L 0).e = 0 := by unfold rK; rw [List.take_zero]; exact ⟨rfl, rfl⟩
 have zc : ∀ i, (rK t L 0).c.nd i = begN (i : Nat) t := fun i => by unfold rK; rw [List.take_zero]; rfl
 have zr : (rK t L 0).r = [] := by unfold rK; rw [List.take_zero]; rfl
 refine c_loop (fun r A W => ∃ (k : Nat) (D : Nat → Nd × Ad) (v : Value), k ≤ L.length ∧ L.length - k ≤ r ∧ A.tmps.size = 44 ∧ A.defers = [] ∧ A.eval (.tmp 4) = .pointer (some ⟨w1.heap.size, 0, none⟩) ∧ A.eval (.tmp 7) = .pointer (some ⟨w3.heap.size, 0, none⟩) ∧ A.eval (.tmp 8) = v ∧ A.eval (.tmp 20) = .slice mo L.length mc ∧ A.eval (.tmp 21) = .int .i64 (L.length : Int) ∧ A.eval (.tmp 22) = .int .i64 (k : Int) ∧ (rK t L k).e = 0 ∧ (rK t L k).r.length ≤ 4 * k ∧ ClsOK (rK t L k).c ∧ (∀ i, i < 4 → (D i).1 = (rK t L k).c.nd i) ∧
   Cx w W [vhI 40 w3.heap.size 297 297 (clG (rK t L k).c.fr D), agI w.heap.size D, ownI w.heap.size 96 14 v (rK t L k).r.length (rwS rpF 14 (rK t L k).r), vhI 40 w1.heap.size 297 297 (clF 0 (fun _ => zeroN) (fun _ => slV (none, 0) 0))]) L.length
  ⟨0, D0, _, Nat.zero_le _, by omega, (szL _ _).trans hs, (defL _ _).trans hd, Qv, Qv, Qv, Qv, Qv, Qv, z0.2, by rw [zr]; exact Nat.zero_le _, by unfold rK; rw [List.take_zero]; exact begC_ok ht, fun i hi => (hD0 i hi).trans (zc i).symm, ?_⟩ (fun r B W hI => ?_)
 ·rw [z0.1, zr]
  have H1 := H.sub (List.Sublist.cons_cons _ (List.Sublist.cons_cons _ (List.Sublist.cons_cons _ (List.nil_sublist _))))
  exact (H1.add (Below.refl _ _) (ownI w.heap.size 96 14 (.slice none 0 0) 0 []) (World.ownsRow_nil _ _ _ _) (fun j e => nomatch e)).b2
 clear b0 b1 hs hd H
 obtain ⟨k, D, v, hk, hrr, hs, hd, b4, b7, b8, b20, b21, b22, hE0, hrl, hcl, hD, H⟩ := hI
 refine c_rs (m_start ?_)
 repeat first | refine qa ?_ | refine l_nx ?_ | refine c_nx ?_
 refine q_if (fun h => ?_) (fun h => ?_)
 ·have kn : k < L.length := by have := of_decide_eq_true h; omega
  have hc := List.getElem?_eq_getElem kn
  obtain ⟨cc, ec⟩ : ∃ cc, cc = L[k] := ⟨_, rfl⟩
  rw [← ec] at hc
  have hcc := hok cc (List.mem_of_getElem? hc)
  obtain ⟨pb, po, rfl, hcell⟩ := hr (by omega)
  have hcell := hcell k cc hc
  obtain ⟨s, es⟩ : ∃ s, s = rK t L k := ⟨_, rfl⟩
  have hsx := rK_succ (t := t) hc
  rw [← es] at hE0 hrl hcl hD H hsx
  obtain ⟨p1, p2, p3, p4⟩ := frC_congr (x := cc.x) (fr := s.c.fr) rfl hD
  have hcls : ClsOK ⟨s.c.fr, fun i => (D i).1⟩ := ⟨hcl.1, fun i hi => by show NdOK (D i).1; rw [hD i hi]; exact hcl.2 i hi⟩
  refine c_fin ?_
  refine c_nx (c_block ?_)
  refine c_rs ?_
  refine qg (run_ixSC _ _ _ _ rfl SlcK.out SizK.out Qv Qv rfl kn _) ?_
  refine qg (run_lodCs (g := inpF cc) ManyK.out (fun j hj => at_below (hcell j hj) H.bel) rfl Qv) ?_
  refine q_al H ?_
  intro w6 H z6
  refine q_sp0 H stP_whole (ipF_one _ _ _ _ _) ?_
  intro w7 H z7
  refine l_nx ?_
  refine c_rs ?_
  iterate 2 refine qa ?_
  have hag : ∀ i, i < 4 → AgRd w7 (D i).1 (D i).2.1 (D i).2.2 := fun i hi => by
   have ho : World.ownsRow _ _ _ _ _ _ _ := H.o2 i hi
   obtain ⟨a3, c3, e, hs3, _⟩ := owns_sr ho
   cases e
   exact hs3
  have hsz := H.size
  refine q_c2 (frame_ok cc.x s.c.fr D cc.lo cc.lc cc.LL _ rfl hcc.ip hcls hag (hcc.jr.below H.bel)) ?_
  rintro e w8 ⟨D', vr, rfl, hD', G⟩
  rw [p4] at G
  replace H := H.plus G
  refine ⟨_, rfl, ?_⟩
  refine qa ?_
  refine qg (run_ext3A _ rfl Qv _) ?_
  refine qg (run_ext3B _ rfl Qv _) ?_
  refine qg (run_ext3C _ rfl Qv _) ?_
  refine q_al H ?_
  intro w9 H z9
  refine q_sp0 H stP_whole (clG_one _ _) ?_
  intro w10 H z10
  iterate 2 refine qa ?_
  refine l_nx ?_
  refine c_nx ?_
  refine c_rs ?_
  refine qa ?_
  refine qg (run_neqE _ _ rfl Qv Qv rfl _) ?_
  refine l_nx ?_
  refine q_if (fun h => ?_) (fun h => ?_)
  ·have hE : frE cc.x s.c ≠ 0 := by rw [← p1]; exact of_decide_eq_true h
   rw [rnS_no hE0 hE] at hsx
   have eF : rnF t (L.map Li.x) = ⟨zeroC, [], frE cc.x s.c⟩ := (rK_end hl (k := k + 1) (Or.inr (by rw [hsx]; exact hE))).trans hsx
   refine c_rs ?_
   refine qg (run_bldC0 rfl _) ?_
   refine qa ?_
   refine q_sp7 H stP_whole (clF_one _ _ _ _) ?_
   intro w11 H z11
   repeat first | refine qa ?_ | refine l_nx ?_
   refine c_ret (r_nx (r_bl (r_nx (r_th (r_bl (r_nx (ret_of ((defL _ _).trans hd) (res_ctt rfl Qv Qv Qv ManyK.out H.v7 (Nat.le_refl _)) ⟨fun _ => (zeroN, (none, 0)), _, by rw [eF]; rw [p1]; rfl, fun i hi => by rw [eF]; rfl, ?_⟩)))))))
   rw [eF]
   exact (((H.sub (List.nil_sublist _)).add (Below.refl _ _) (agI w.heap.size (fun _ => (zeroN, (none, 0)))) (fun _ _ => World.ownsRow_nil _ _ _ _) (fun j ⟨_, _, e⟩ => absurd e (fun e => nomatch e))).add (Below.refl _ _) (ownI _ _ _ _ _ _) (World.ownsRow_nil _ _ _ _) (fun j e => nomatch e))
  have hE : frE cc.x s.c = 0 := by
   have : decide (frE cc.x ⟨s.c.fr, fun i => (D i).1⟩ ≠ 0) = false := h
   rw [p1] at this
   simpa using this
  rw [rnS_ok hE0 hE] at hsx
  refine c_fin ?_
  replace H := H.drew
  have hvr : World.ownsRow _ _ _ _ _ _ _ := H.o1
  have hr4 := frR_len cc.x s.c
  have hS : (fun W' => Its [vhI 40 w8.heap.size 297 297 (clG (frC cc.x ⟨s.c.fr, fun i => (D i).1⟩).fr D')] W') w10.drew := Its.cons H.o0 (Its.nil _)
  refine c_rj (S := fun W' => Its [vhI 40 w8.heap.size 297 297 (clG (frC cc.x ⟨s.c.fr, fun i => (D i).1⟩).fr D')] W') (.rd 0 (.mv 1 (.mv 2 (.go 3 (.go 4 (.mv 5 .fin)))))) [4] (by kernel_rfl) (by kernel_rfl) ?_
  refine Yr rfl hS (fun _ H => run_loadP _ _ rfl ManyK.out Qv H.v0 (by omega)) ?_
  iterate 2 refine qj ?_
  refine j_do rfl rfl (wanted_rd rfl) (fun K hK => ?_)
  refine wp_joinA (bytes := 80) rfl inferInstance H.size Qv Qv H.o6 (rdc_own hvr) (rwS_one (fun x _ => rpP_one _ _)) (by unfold maxLen; omega) (by omega) ?_
  intro v11 w11 h11 k11 f11
  replace H := H.p6 k11.os k11.tape k11.output k11.size (fun j h5 h6 => k11.block j h5 (fun e => h6 e.symm)) (ownI w.heap.size 96 14 v11 (s.r.length + (frR cc.x s.c).length) (rwS rpF 14 s.r ++ rwS rpF 14 (frR cc.x s.c))) h11 f11
  refine hK _ _ (fun _ _ => Its.cons H.o0 (Its.nil _)) ?_
  clear hK K
  refine j_st rfl (wanted_rd rfl) (fun K hK => ?_)
  refine wp_storeP _ _ _ _ rfl ManyK.out Qv Qv H.v4 (by omega) (clG_one _ _) rfl ?_
  intro w12 m12 k12 z12
  replace H := H.s4 k12 (m12.congr stP_whole)
  refine hK _ (fun h => absurd h (by decide)) ?_
  clear hK K hS
  refine qj ?_
  refine j_finB ?_
  refine c_region ?_
  repeat refine qa ?_
  refine l_round ⟨L.length - (k + 1), by omega, k + 1, D', _, by omega, by omega, (szL _ _).trans hs, (defL _ _).trans hd, Qv, Qv, Qv, Qv, Qv, Eq.trans Qv (by rw [Int.natCast_add]; rfl), by rw [hsx], ?_, ?_, ?_, ?_⟩
  ·rw [hsx, List.length_append]; omega
  ·rw [hsx]; exact frC_ok hcc.ip hcl
  ·rw [hsx]; exact fun i hi => (hD' i hi).trans (p3 i hi)
  ·rw [hsx]
   show Cx w _ [vhI _ _ 297 297 (clG (frC cc.x s.c).fr D'), _, ownI _ _ _ _ (s.r ++ frR cc.x s.c).length (rwS rpF 14 (s.r ++ frR cc.x s.c)), _]
   rw [List.length_append, rwS_app, ← p2]
   have H2 := agI_base H.f2 hsz
   exact H2.f4.sub (.cons_cons _ (.cons_cons _ (.cons _ (.cons _ (.cons _ (.cons _ (.cons_cons _ (.cons_cons _ (List.nil_sublist _)))))))))
 ·have ek : k = L.length := by have := of_decide_eq_false h; omega
  have eF : rnF t (L.map Li.x) = rK t L k := rK_end hl (Or.inl (by omega))
  refine c_exit (x_out ?_)
  refine c_rs ?_
  iterate 2 refine qa ?_
  refine q_sp3 H stP_whole (clG_one _ _) ?_
  intro w6 H z6
  repeat first | refine qa ?_ | refine l_nx ?_
  refine c_ret (ret_of ((defL _ _).trans hd) (res_ctt rfl Qv Qv Qv ManyK.out H.v3 (Nat.le_refl _)) ⟨D, _, by rw [eF, hE0], by rw [eF]; exact hD, ?_⟩)
  rw [eF]
  exact H.tl.f1.sub (.cons_cons _ (.cons_cons _ (List.nil_sublist _)))
end Go.Proofs.YtdhblehhgpdpdaaGreat
namespace Go.Proofs.YtdhblehhgpdpdaaGreat
open Go.RowKit
end Go.Proofs.YtdhblehhgpdpdaaGreat
namespace Go.Proofs.YtdhblehhgpdpdaaGreat
open Go.RowKit
end Go.Proofs.YtdhblehhgpdpdaaGreat
namespace Go.Proofs.YtdhblehhgpdpdaaGreat
open Go.RowKit
end Go.Proofs.YtdhblehhgpdpdaaGreat
namespace Go.Proofs.YtdhblehhgpdpdaaGreat
open Go.RowKit
def t1 : Tn := ⟨4294967296, 0, 4294967296, 429496729600⟩
def rdA1 (_ a : Nat) : Int := if a = 0 then 4294967296 else 0
def x1 : Ip := ⟨rdA1, -1, []⟩
section
variable {f : Operand → Value} {o : Oper}
end
end Go.Proofs.YtdhblehhgpdpdaaGreat
namespace Go.Proofs.YtdhblehhgpdpdaaGreat
open Go.RowKit
end Go.Proofs.YtdhblehhgpdpdaaGreat
namespace Go.Proofs.YtdhblehhgpdpdaaGreat
open Go.RowKit
end Go.Proofs.YtdhblehhgpdpdaaGreat
namespace Go.Proofs.YtdhblehhgpdpdaaGreat
open Go.RowKit
theorem clH_at (d : Int × (Nat → Nd × Ad)) {i j : Nat} (hj : j < 74) : clH d (0 + 1 + i * 74 + j) = ndF (d.2 i).1 (slV (d.2 i).2 (d.2 i).1.vA.length) j := by
 show clG d.1 d.2 _ = _
 rw [show 0 + 1 + i * 74 + j = 1 + i * 74 + j by omega]
 exact clF_nd _ _ _ hj
theorem agRd_of {w : World} {B : Nat} {d : Nd × Ad} (h : (agJ B d).p w) : AgRd w d.1 d.2.1 d.2.2 := by
 obtain ⟨a3, c3, e, hs3, _⟩ := owns_sr h
 cases e
 exact hs3
end Go.Proofs.YtdhblehhgpdpdaaGreat
namespace Go.Proofs.YtdhblehhgpdpdaaGreat
open Go.RowKit
theorem run_lodX {P : Program} {f : Operand → Value} {o : Oper} {ty : TypeId} {x : Operand} (T : OneC P ty) {b off : Nat} {v : Value} {w : World} (hc : w.cell? ⟨b, off, none⟩ = some v) (ho : o.op = .load ty x) (hx : f x = .pointer (some ⟨b, off, none⟩)) : (execOp f o).run P w = .ok (.value v) w := by
 unfold execOp
 simp only [ho, hx, Instr.loadAt, Instr.sureAddr, loadVar, Sem.run_bind, Sem.run_pure, Result.andThen_ok, T.agg]
 go_simp
instance : ZerK Tryz.prog 35 3 (nvdF 0 false (.slice none 0 0)) := ⟨fun w => by kernel_rfl⟩
end Go.Proofs.YtdhblehhgpdpdaaGreat
namespace Go.Proofs.YtdhblehhgpdpdaaGreat
open Go.RowKit
def rbF (g : Nat → Nat) (l : Nat) (i : Nat) : Nat := if i < l then g i else if i = l then 77 else 78
theorem rbF_low {g : Nat → Nat} {l i : Nat} (h : i < l) : rbF g l i = g i := by unfold rbF; rw [if_pos h]
theorem rb_row (g : Nat → Nat) (l : Nat) (u : Nat → Value) (h0 : u 0 = .int .u8 77) (h1 : u 1 = .int .u8 78) : rowV (bF g) l ++ rowV u 2 = rowV (bF (rbF g l)) (l + 2) := by
 rw [rowV_append]
 refine rowV_congr (fun i hi => ?_)
 by_cases c : i < l
 ·rw [if_pos c]; unfold bF; rw [rbF_low c]
 ·rw [if_neg c]
  have : i = l ∨ i = l + 1 := by omega
  rcases this with rfl | rfl
  ·rw [Nat.sub_self, h0]; unfold bF rbF; rw [if_neg (by omega), if_pos rfl]; rfl
  ·rw [Nat.add_sub_cancel_left, h1]; unfold bF rbF; rw [if_neg (by omega), if_neg (by omega)]; rfl
set_option maxHeartbeats 1000000 in
theorem roomyB_any (ao : Option Addr) (len cap : Nat) (g : Nat → Nat) (w : World) (hl : len ≤ 140737488351232) (hr : Sr w ao len cap (bF g)) :
  Calls Tryz.prog 16 #[.slice ao len cap] w fun e w' => ∃ r c, e = .returned (.slice (some ⟨r, 0, none⟩) len c) ∧ w.heap.size ≤ r ∧ Vh 5 w' r (len + 2) c (bF (rbF g len)) ∧ Below w.heap.size w w' := by
 have HR := hide hr
 clear hr
 go_enter Tryz.func16, Tryz.ntmps16
 go_wp2_with (at_make; refine wpList_makeC _ rfl _ _ rfl 0 (len + 9) rfl (by go_num) (by omega) (by omega) ?_)
 intro w1 z1 v1 k1
 have O1 := hide (v1.owns (base := w.heap.size) (Nat.le_refl _)); have K1 := hide k1; have Z1 := hide k1.size
 clear v1 k1 z1
 go_wp2_with (at_builtin; refine wpList_join _ rfl _ _ rfl w.heap.size (unhide Z1) _ 0 (rowV (bF (fun _ => 0)) 0) rfl (unhide O1) ao len cap (bF g) rfl ((unhide HR).below (unhide K1)) (fun i _ => bF_one g i) (by omega) ?_)
 intro v2 w2 o2 k2
 have o2' : w2.ownsRow w.heap.size 5 1 v2 len (rowV (bF g) len) := by
  have h := o2
  try rw [Nat.zero_add] at h
  exact h
 have A3 := al_below w2 (.cells #[.int .u8 77, .int .u8 78] 5)
 have V3 := Vh.new w2 5 #[.int .u8 77, .int .u8 78] (fun i => if i = 0 then .int .u8 77 else .int .u8 78) (by show 2 ≤ maxLen; decide) (fun i hi => by
  have : i = 0 ∨ i = 1 := by simp at hi; omega
  rcases this with rfl | rfl <;> rfl)
 have S3 := hide (show Sr (w2.alloc (.cells #[.int .u8 77, .int .u8 78] 5)) (some ⟨w2.heap.size, 0, none⟩) 2 2 (fun i => if i = 0 then .int .u8 77 else .int .u8 78) from Or.inr ⟨_, rfl, fun i hi => by rw [Addr.add_lit, Nat.zero_add]; exact V3.cell hi⟩)
 have k3 : Below w.heap.size w (w2.alloc (.cells #[.int .u8 77, .int .u8 78] 5)) := ((unhide K1).trans k2).trans (A3.mono (Nat.le_trans (unhide Z1) k2.size))
 have O3 := hide (own_kept o2' A3); have K3 := hide k3; have Z3 := hide k3.size
 clear o2 o2' k2 A3 V3 k3 O1 K1 Z1
 go_wp2_with (at_builtin; refine wpList_join _ rfl _ _ rfl w.heap.size (unhide Z3) v2 len (rowV (bF g) len) rfl (unhide O3) (some ⟨w2.heap.size, 0, none⟩) 2 2 (fun i => if i = 0 then .int .u8 77 else .int .u8 78) rfl (unhide S3) (fun i _ => by show Value.oneCell' (if i = 0 then _ else _) = true; split <;> rfl) (by omega) ?_)
 intro v4 w4 o4 k4
 rw [rb_row g len _ rfl rfl] at o4
 obtain ⟨r, c, rfl, hr, v4⟩ := Vh.of_owns (by omega) o4
 have F := hide (And.intro hr (And.intro v4 ((unhide K3).trans k4)))
 have hf := v4.fit
 clear o4 k4 hr v4
 have hc : len ≤ c := by omega
 go_wp2_with fail
 go_ret
 exact ⟨r, c, rfl, (unhide F).1, (unhide F).2.1, (unhide F).2.2⟩
set_option maxHeartbeats 1000000 in
theorem stayedB_any (r c : Nat) (bo : Option Addr) (len cap : Nat) (g : Nat → Nat) (w : World) (hl : len ≤ 140737488351232) (hv : Vh 5 w r (len + 2) c (bF (rbF g len))) (hr : Rd w bo len (bF g)) :
  Calls Tryz.prog 17 #[.slice (some ⟨r, 0, none⟩) len c, .slice bo len cap] w fun e w' => e = .returned (.bool true) ∧ Below w.heap.size w w' := by
 have hf := hv.fit
 have w2 : IntKind.i64.wrap ((len : Int) + 2) = (len : Int) + 2 := by rw [IntKind.wrap_i64]; omega
 have w1' : IntKind.i64.wrap ((len : Int) + 1) = (len : Int) + 1 := by rw [IntKind.wrap_i64]; omega
 have cv1 := run_convB w (some ⟨r, 0, none⟩) len c _ ((hv.less (show len ≤ len + 2 by omega)).congr (f := bF g) (fun i hi => by unfold bF; rw [rbF_low hi])).rd
 have cv2 := run_convB w bo len cap g hr
 obtain ⟨T, eT⟩ : ∃ T, sB g len = T := ⟨_, rfl⟩
 rw [eT] at cv1 cv2
 have c1 : w.cell? ⟨r, len, none⟩ = some (.int .u8 77) := by have := hv.cell (show len < len + 2 by omega); unfold bF rbF at this; rw [if_neg (by omega), if_pos rfl] at this; exact this
 have c2 : w.cell? ⟨r, len + 1, none⟩ = some (.int .u8 78) := by have := hv.cell (show len + 1 < len + 2 by omega); unfold bF rbF at this; rw [if_neg (by omega), if_neg (by omega)] at this; exact this
 have hc : len + 2 ≤ c := hf
 clear hv hr eT hf
 go_enter Tryz.func17, Tryz.ntmps17
 go_wp2_with fail
 go_ret
 exact ⟨rfl, Below.refl _ _⟩
end Go.Proofs.YtdhblehhgpdpdaaGreat
namespace Go.Proofs.YtdhblehhgpdpdaaGreat
open Go.RowKit
theorem ipF_rds (rd : Nat → Nat → Int) (lv : Value) : ∀ j, j < 14 → stP (ipF (fun _ _ => 0) 0 lv) (0 + 0) 12 (rd4F rd) j = ipF rd 0 lv j := fun j _ => by
 unfold stP ipF rd4F
 by_cases c : j < 12
 ·rw [if_pos (by omega), if_pos c, show j - (0 + 0) = j by omega]
 ·rw [if_neg (by omega), if_neg c, if_neg c]
theorem rd4F_one (rd : Nat → Nat → Int) : ∀ j, j < 12 → (rd4F rd j).oneCell' = true := fun _ _ => rfl
def blkO (c : Lj) : Nat := (c.ao.map (·.block)).getD 0
def rbI (c : Lj) : It := ⟨fun w => c.ao = some ⟨blkO c, 0, none⟩ ∧ Vh 5 w (blkO c) (c.y.n + 2) c.cap (bF (rbF c.y.g c.y.n)), fun k => k = blkO c, fun h e => ⟨h.1, Vh.same h.2 (e _ h.2.lt rfl)⟩, fun h e => e ▸ h.2.lt⟩
theorem rb_sr {w : World} {c : Lj} (h : (rbI c).p w) : Sr w c.ao c.y.n c.cap (bF c.y.g) ∧ c.y.n ≤ c.cap := by
 have h1 := h.1
 have h2 := h.2
 refine ⟨Or.inr ⟨_, h1, fun i hi => ?_⟩, by have := h2.fit; omega⟩
 have := h2.cell (i := i) (by omega)
 rw [Addr.add_lit, Nat.zero_add, this]
 unfold bF
 rw [rbF_low hi]
theorem lyF_put (ph wo : Int) (v u : Value) : ∀ j, j < 3 → stW (lyF ph wo v) (0 + 2) u j = lyF ph wo u j := fun j hj => by
 match j, hj with
 | 0, _ => rfl
 | 1, _ => rfl
 | 2, _ => rfl
theorem clG_ags (fr : Int) (D : Nat → Nd × Ad) (i : Nat) : clG fr D (0 + 1 + i * 74 + 71 + 2) = slV (D i).2 (D i).1.vA.length := by
 unfold clG
 rw [show 0 + 1 + i * 74 + 71 + 2 = 1 + i * 74 + 73 by omega, clF_nd _ _ _ (by omega)]
 rfl
theorem clG_list (fr : Int) (D : Nat → Nd × Ad) (i : Nat) (a : Ad) : ∀ j, j < 297 → stW (clG fr D) (0 + 1 + i * 74 + 71 + 2) (slV a (D i).1.vA.length) j = clG fr (upM D i ((D i).1, a)) j := by
 intro j hj
 rw [show 0 + 1 + i * 74 + 71 + 2 = 1 + i * 74 + 73 by omega, ← clG_set fr D i ((D i).1, a) j hj]
 unfold stP
 by_cases c : 1 + i * 74 ≤ j ∧ j < 1 + i * 74 + 74
 ·rw [if_pos c]
  have e := ndF_list (D i).1 (slV (D i).2 (D i).1.vA.length) (slV a (D i).1.vA.length) (j - (1 + i * 74)) (by omega)
  rw [← e]
  unfold stW
  by_cases c2 : j = 1 + i * 74 + 73
  ·rw [if_pos c2, if_pos (by omega)]
  ·rw [if_neg c2, if_neg (by omega), ← clF_nd fr (fun i => (D i).1) (fun i => slV (D i).2 (D i).1.vA.length) (i := i) (by omega), show 1 + i * 74 + (j - (1 + i * 74)) = j by omega]
   rfl
 ·rw [if_neg c, stW_other _ _ (by omega)]
theorem vh_full {t : TypeId} {w : World} {B g n cap : Nat} {f : Nat → Value} (h : w.ownsRow B t 1 (.slice (some ⟨g, 0, none⟩) n cap) n (rowV f n)) : ∃ g0 : Nat → Value, Vh t w g cap cap g0 ∧ n ≤ cap ∧ ∀ i, i < n → g0 i = f i := by
 rcases h.2 with ⟨e, _⟩ | ⟨g', cap', cur, e, hb, hg, hc, hm, hsz, hcur⟩
 ·cases e
 ·injection e with e1 _ e3
  injection e1 with e1
  injection e1 with e1
  subst e1 e3
  have hs : cur.size = cap := by omega
  refine ⟨fun i => cur.getD i undef, ⟨cur, hg, hs, Nat.le_refl _, hm, fun i hi => ?_⟩, hc, fun i hi => ?_⟩
  ·rw [Array.getElem?_eq_getElem (by omega)]
   simp [Array.getD, show i < cur.size by omega]
  ·have hce := h.cells (g := g) rfl i (f i) (by unfold rowV; rw [List.getElem?_map, List.getElem?_range hi]; rfl)
   rw [add_at, Nat.zero_add] at hce
   have h4 : w.cell? ⟨g, i, none⟩ = cur[i]? := by simp [World.cell?, hg]
   rw [h4] at hce
   simp [Array.getD_eq_getD_getElem?, hce]
def notV : Value → Value
 | .bool b => .bool (!b)
 | v => v
def flpF (g0 : Nat → Value) (j i : Nat) : Value := if i < j then notV (g0 i) else g0 i
theorem flp_next (g0 : Nat → Value) {j N : Nat} {b : Bool} (hb : g0 j = .bool b) : ∀ i, i < N → stW (flpF g0 j) (0 + j * 1) (.bool (!b)) i = flpF g0 (j + 1) i := fun i _ => by
 by_cases e : i = 0 + j * 1
 ·rw [e, stW_same]
  unfold flpF
  rw [if_pos (by omega), show 0 + j * 1 = j by omega, hb]
  rfl
 ·rw [stW_other _ _ e]
  unfold flpF
  by_cases c : i < j
  ·rw [if_pos c, if_pos (by omega)]
  ·rw [if_neg c, if_neg (by omega)]
theorem wp_copyT (w : World) {o : Oper} {a : Act} {K : Act → World → Prop} {Q : Exit → Act → World → Prop} (d s : Operand)
  (ho : o.op = .call { callee := .builtin .copy, args := #[d, s], argTypes := #[33, 33] }) {b n N cap : Nat} {f : Nat → Value} (hd : a.eval d = .slice (some ⟨b, 0, none⟩) n cap) (hv : Vh 4 w b N cap f) (hn : n ≤ N) (h0 : 0 < n)
  {vo : Option Addr} {cv : Nat} {g : Nat → Value} (hs : a.eval s = .slice vo n cv) (hr : Rd w vo n g) (h1 : ∀ i, (g i).oneCell' = true)
  (h : ∀ w', Vh 4 w' b N cap (fun i => if i < n then g i else f i) → Kept b w w' → K (a.put o.dst (goInt n)) w') : WpI Tryz.prog o a w K Q := by
 have hsz : (Tryz.prog.info? 4).map (·.size) = some 1 := by kernel_rfl
 obtain ⟨ad, rfl, hsrc⟩ := hr.list h0
 obtain ⟨cur, hb, hnc, hfit, hmax, hcur⟩ := hv
 have hrun := run_copy_row (P := Tryz.prog) w 33 33 o.type 4 b 0 n cap ad n cv cur 4 (rowV g n) Tryz.underlying33 hsz hb (by rw [rowV_length]; exact (Nat.min_self n).symm) hsrc (by rw [rowV_length]; omega) (rowV_one g n (fun i _ => h1 i))
 rw [rowV_length] at hrun
 have hh := h (w.setRow b (cur.toList.take 0 ++ rowV g n ++ cur.toList.drop (0 + n)).toArray)
  ⟨_, setRow_heap w b cur _ 4 (0, 0) hb, by simp [rowV_length]; omega, hfit, hmax, fun i hi => by
   simp only [List.take_zero, List.nil_append, List.getElem?_toArray]
   by_cases c : i < n
   ·rw [if_pos c, List.getElem?_append_left (by rw [rowV_length]; exact c), rowV_at g c]
   ·rw [if_neg c, List.getElem?_append_right (by rw [rowV_length]; omega), rowV_length, List.getElem?_drop, show 0 + n + (i - n) = i by omega]
    rw [← hcur i hi]
    simp⟩
  ⟨rfl, rfl, rfl, by simp, fun k _ hk => setRow_other w b k _ hk⟩
 refine ⟨?_⟩
 unfold Oper.wp execOp
 simp only [ho, resolve, invoke, builtin, Sem.run_bind, Sem.run_pure, Result.andThen_ok, List.map_toArray, List.map_cons, List.map_nil, hd, hs, hrun]
 exact hh
theorem wp_copyT0 (w : World) {o : Oper} {a : Act} {K : Act → World → Prop} {Q : Exit → Act → World → Prop} (d s : Operand)
  (ho : o.op = .call { callee := .builtin .copy, args := #[d, s], argTypes := #[33, 33] }) {ad ae : Option Addr} {c c2 : Nat} (hd : a.eval d = .slice ad 0 c) (hs : a.eval s = .slice ae 0 c2) (h : K (a.put o.dst (goInt 0)) w) : WpI Tryz.prog o a w K Q := by
 have hsz : (Tryz.prog.info? 4).map (·.size) = some 1 := by kernel_rfl
 have hrun := run_copy_none (P := Tryz.prog) w 33 33 o.type 4 ad ae 0 c 0 c2 Tryz.underlying33 hsz (by rfl)
 refine ⟨?_⟩
 unfold Oper.wp execOp
 simp only [ho, resolve, invoke, builtin, Sem.run_bind, Sem.run_pure, Result.andThen_ok, List.map_toArray, List.map_cons, List.map_nil, hd, hs, hrun]
 exact h
theorem kept_back {z cap : Nat} {w w' : World} {t : TypeId} {g : Nat → Value} (k : Kept z w w') (h : Vh t w z cap cap g) (h' : Vh t w' z cap cap g) : Below w.heap.size w w' := ⟨k.os, k.tape, k.output, k.size, fun i hi => by
 by_cases e : i = z
 ·rw [e, h'.whole, h.whole]
 ·exact k.block i hi e⟩
theorem ljF1 (c : Lj) : ∀ j, j < 3 → (ljF c j).oneCell' = true := fun j hj => by
 match j, hj with | 0, _ => rfl | 1, _ => rfl | 2, _ => rfl
theorem ag_cells {w : World} {B : Nat} {d : Nd × Ad} (h : (agJ B d).p w) (h0 : 0 < d.1.vA.length) : ∃ g, d.2.1 = some ⟨g, 0, none⟩ ∧ (agJ B d).foot g ∧ ∀ j, j < d.1.vA.length → w.cell? ⟨g, j, none⟩ = some (tF (bA d.1) j) := by
 have h' : World.ownsRow _ _ _ _ _ _ _ := h
 rcases h'.2 with ⟨e, e0⟩ | ⟨g, cap, cur, e, _⟩
 ·omega
 ·have hf : (slV d.2 d.1.vA.length).ownBlock = some g := by rw [e]; rfl
  have e1 : d.2.1 = some ⟨g, 0, none⟩ := by unfold slV at e; injection e
  refine ⟨g, e1, hf, fun j hj => ?_⟩
  have := h'.cells hf j _ (rowV_at _ hj)
  rwa [add_at, Nat.zero_add] at this
theorem ag_full {w : World} {B : Nat} {d : Nd × Ad} (h : (agJ B d).p w) : ∃ (gx : Nat) (g0 : Nat → Value), (0 < d.1.vA.length → d.2.1 = some ⟨gx, 0, none⟩ ∧ Vh 4 w gx d.2.2 d.2.2 g0 ∧ d.1.vA.length ≤ d.2.2 ∧ ∀ i, i < d.1.vA.length → g0 i = tF (bA d.1) i) ∧ ((agJ B d).foot gx ∨ w.heap.size ≤ gx) ∧ (¬ 0 < d.1.vA.length → w.heap.size ≤ gx) := by
 by_cases h0 : 0 < d.1.vA.length
 ·obtain ⟨g, e1, hf, _⟩ := ag_cells h h0
  have h' : World.ownsRow _ _ _ _ _ _ _ := h
  have e : slV d.2 d.1.vA.length = .slice (some ⟨g, 0, none⟩) d.1.vA.length d.2.2 := by unfold slV; rw [e1]
  rw [e] at h'
  obtain ⟨g0, hv, hl, hg⟩ := vh_full h'
  exact ⟨g, g0, fun _ => ⟨e1, hv, hl, hg⟩, Or.inl hf, fun h => absurd h0 h⟩
 ·exact ⟨w.heap.size, fun _ => undef, fun h => absurd h h0, Or.inr (Nat.le_refl _), fun _ => Nat.le_refl _⟩
theorem far_of {w0 w : World} {x : It} {l : List It} {z : Nat} (H : Cx w0 w (x :: l)) (hf : x.foot z ∨ w.heap.size ≤ z) : ∀ y, y ∈ l → ∀ k, y.foot k → k ≠ z := fun y hy k hk e => by
 rcases hf with hf | hs
 ·exact (List.pairwise_cons.1 H.dis).1 y hy z hf (e ▸ hk)
 ·have := y.lt (H.it y (List.mem_cons_of_mem _ hy)) hk
  omega
theorem run_neqM {f : Operand → Value} {o : Oper} (x y : Operand) (ho : o.op = .binOp .neq 4 x y 4) {u v : Bool} (hx : f x = .bool u) (hy : f y = .bool v) (hb : u = v) (w : World) : (execOp f o).run Tryz.prog w = .ok (.value (.bool false)) w := by
 subst hb
 unfold execOp
 rw [ho]
 dsimp only
 rw [hx, hy]
 cases u <;> go_simp
end Go.Proofs.YtdhblehhgpdpdaaGreat
namespace Go.Proofs.YtdhblehhgpdpdaaGreat
open Go.RowKit
theorem c_newM {P : Program} {Q : Exit → Act → World → Prop} {a : Act} {w : World} {y : Code} (T : Act → World → Prop) (h0 : T a w) (h : ∀ A W, T A W → CodI P y Q A W) : CodI P y Q a w := h _ _ h0
set_option maxRecDepth 10000 in
set_option maxHeartbeats 4000000 in
theorem clusterMemory_walk {w : World} (t : Tn) (mo : Option Addr) (mc : Nat) (L : List Li) (ht : t.Ok) (hr : RdS inpF 14 w mo L) (hok : ∀ c, c ∈ L → LiOK w c ∧ c.LL.length * 40 ≤ 140737488351232) :
  Calls Tryz.prog 5 #[agV (ntnF t) 0 4, .slice mo L.length mc] w fun e w' => e = .returned (.bool true) ∧ Below w.heap.size w w' := by
 refine enterF Tryz.func5 rfl 198 rfl (of_decide_eq_true rfl) (fun A hs hd hb => ?_)
 have b0 : A.eval (.tmp 0) = agV (ntnF t) 0 4 := hb 0 _ rfl
 have b1 : A.eval (.tmp 1) = .slice mo L.length mc := hb 1 _ rfl
 clear hb
 have H := Cx.start w
 refine c_rs (m_start ?_)
 refine q_box H ?_
 clear H
 intro w1 H z1
 refine qa ?_
 refine l_nx ?_
 refine c_rs ?_
 refine qa ?_
 have hsz := H.size
 have eR : rnF t (([] : List Li).map Li.x) = ⟨begC t, [], 0⟩ := by unfold rnF; rw [if_neg (by simp)]; rfl
 refine q_c2 (clRun_ok t none 0 [] w1 ht (fun h => absurd h (Nat.lt_irrefl 0)) (fun c hc => by cases hc)) ?_
 rw [eR]
 rintro e w2 ⟨D0, v2, rfl, hD0, G2⟩
 replace H := H.plus G2
 refine ⟨_, rfl, ?_⟩
 refine qa ?_
 refine qg (run_ext3A _ rfl Qv _) ?_
 refine qg (run_ext3B _ rfl Qv _) ?_
 refine qg (run_ext3C _ rfl Qv _) ?_
 refine q_al H ?_
 clear H
 intro w3 H z3
 refine q_sp0 H stP_whole (clG_one _ _) ?_
 clear H
 intro w4 H z4
 iterate 2 refine qa ?_
 refine l_nx ?_
 refine c_nx ?_
 refine c_rs ?_
 refine qa ?_
 refine qg (run_neqE (b := false) _ _ rfl Qv Qv rfl _) ?_
 iterate 2 refine qa ?_
 refine qg (run_ixG (i := 3) _ _ _ _ rfl ArrK.out SizK.out Qv Qv rfl (by omega) _) ?_
 refine qa ?_
 refine qg (run_lod1 _ _ rfl OneK.out Qv H.v0 (by omega) (show _ = Value.int .i64 3 by
  rw [show 0 + 1 + 3 * 74 + 0 = 0 + 1 + 3 * 74 + 0 from rfl]
  have := clH_at ((0 : Int), D0) (i := 3) (j := 0) (by omega)
  have e : clH ((0 : Int), D0) = clG (begC t).fr D0 := rfl
  rw [e] at this
  rw [this]
  show iV (D0 3).1.id = _
  rw [hD0 3 (by omega)]
  show iV (begN ((3 : Nat) : Int) t).id = _
  rw [begN_at t (by omega)]
  rfl)) ?_
 refine qg (run_neqI (b := false) _ _ rfl Qv (ev_const _ _) (by decide) _) ?_
 refine qg (run_pickF _ _ _ rfl Qv Qv _) ?_
 refine l_nx ?_
 refine q_no rfl (c_fin ?_)
 obtain ⟨cb, ecb⟩ : ∃ cb, cb = w2.heap.size := ⟨_, rfl⟩
 rw [← ecb] at H ⊢
 refine c_nx ?_
 refine c_rs ?_
 refine qa ?_
 refine l_nx ?_
 refine c_block ?_
 refine c_loop (fun r A W => ∃ (k : Nat) (fr : Int) (D : Nat → Nd × Ad), k ≤ L.length ∧ k ≤ 6 ∧ L.length - k ≤ r ∧ ClsOK ⟨fr, fun i => (D i).1⟩ ∧ A.tmps.size = 198 ∧ A.defers = [] ∧ A.eval (.tmp 1) = .slice mo L.length mc ∧ A.eval (.tmp 5) = .pointer (some ⟨cb, 0, none⟩) ∧ A.eval (.tmp 8) = .int .i64 (k : Int) ∧ Cx w W [vhI 40 cb 297 297 (clG fr D), agI w.heap.size D]) L.length
  ⟨0, 0, D0, Nat.zero_le _, by omega, by omega, ?_, (szL _ _).trans hs, (defL _ _).trans hd, Qv, Qv, Qv, ?_⟩ (fun r B W hI => ?_)
 ·exact ⟨R64_zero, fun i hi => by show NdOK (D0 i).1; rw [hD0 i hi]; exact (begC_ok ht).2 i hi⟩
 ·exact (agI_base (H.sub (.cons_cons _ (.cons _ (.cons_cons _ (List.nil_sublist _))))).f1 hsz).f1
 clear b0 b1 hs hd H
 obtain ⟨k, fr, D, hk, hk6, hkr, hcl, hs, hd, b1, b5, b8, H⟩ := hI
 refine c_nx ?_
 refine c_rs (m_start ?_)
 by_cases kn : k < L.length
 ·by_cases k6 : k < 6
  ·iterate 3 refine qa ?_
   refine qg (run_lssI (b := true) _ _ rfl Qv Qv (decide_eq_true (by omega)) _) ?_
   iterate 2 refine qa ?_
   refine qg (run_lssI (b := true) _ _ rfl Qv (ev_const _ _) (decide_eq_true (by omega)) _) ?_
   refine qg (run_pickT' _ _ _ rfl Qv Qv _) ?_
   refine l_nx ?_
   refine q_yes rfl ?_
   have hck := List.getElem?_eq_getElem kn
   obtain ⟨cc, ecc⟩ : ∃ cc, cc = L[k] := ⟨_, rfl⟩
   rw [← ecc] at hck
   have hcc := (hok cc (List.mem_of_getElem? hck)).1
   have hcl4 := (hok cc (List.mem_of_getElem? hck)).2
   obtain ⟨pb, po, rfl, hcell⟩ := hr (by omega)
   have hcell := hcell k cc hck
   have hlies : w.cell? ⟨pb, po + k * 14 + 13, none⟩ = some (.slice cc.lo cc.LL.length cc.lc) := hcell 13 (by omega)
   refine c_fin ?_
   refine c_nx (c_block ?_)
   refine c_rs ?_
   refine q_al H ?_
   clear H
   intro w5 H z5
   refine l_nx ?_
   refine c_nx ?_
   replace H := H.drew
   have hS : (fun W' => Below w.heap.size w W') w5.drew := H.bel
   refine c_rj (S := fun W' => Below w.heap.size w W') (.mv 0 (.mv 1 (.mv 2 (.mv 3 (.rd 4 (.mv 5 (.mv 6 (.mv 7 (.mv 8 (.rd 9 (.mv 10 (.go 11 (.mv 12 (.go 13 .fin)))))))))))))) [] (by kernel_rfl) (by kernel_rfl) ?_
   iterate 2 refine qj ?_
   refine j_mv rfl rfl (fun _ _ _ h => h) (wanted_rd rfl) (fun w => run_ixSC _ _ _ _ rfl SlcK.out SizK.out Qv Qv rfl kn w) ?_
   refine qj ?_
   refine j_rd rfl rfl (fun _ _ _ h => h) (wanted_rd rfl) hS (fun _ H => run_lodCs (g := rd4F cc.rd) ManyK.out (fun q hq => by
    rw [show po + k * 14 + 0 + q = po + k * 14 + q by omega]
    exact (at_below (hcell q (by omega)) H).trans (congrArg some (if_pos hq))) rfl Qv) ?_
   iterate 2 refine qj ?_
   refine j_mv rfl rfl (fun _ _ _ h => h) (wanted_rd rfl) (fun w => run_ixSC _ _ _ _ rfl SlcK.out SizK.out Qv Qv rfl kn w) ?_
   refine qj ?_
   refine Yr rfl hS (fun _ H => run_lodX OneK.out (at_below (show w.cell? ⟨pb, po + k * 14 + 12, none⟩ = some (.int .i64 cc.bad) from hcell 12 (by omega)) H) rfl Qv) ?_
   refine qj ?_
   refine j_st rfl (wanted_rd rfl) (fun K hK => ?_)
   refine wp_storeP _ _ _ _ rfl ManyK.out Qv Qv H.v0 (by omega) (rd4F_one _) rfl ?_
   intro w6 m6 kk6 z6
   replace H := H.s0 kk6 (m6.congr (ipF_rds _ _))
   refine hK _ (fun _ _ => H.bel) ?_
   clear hK K
   refine qj ?_
   refine j_st rfl (wanted_rd rfl) (fun K hK => ?_)
   refine wp_sto1 _ _ _ _ rfl OneK.out Qv Qv H.v0 (by omega) rfl rfl rfl ?_
   intro w7 m7 k7 z7
   replace H := H.s0 k7 (m7.congr (ipF_bad _ _ _ _))
   refine hK _ (fun _ _ => H.bel) ?_
   clear hK K hS
   refine j_nx ?_
   refine c_nx ?_
   refine c_rs ?_
   refine qa ?_
   refine l_nx ?_
   refine c_block ?_
   refine c_loop (fun r A W' => ∃ (q : Nat) (vl : Value) (NL : List Lj), q ≤ cc.LL.length ∧ cc.LL.length - q ≤ r ∧ NL.length = q ∧ NL.map Lj.y = (cc.LL.take q).map Lj.y ∧ A.tmps.size = 198 ∧ A.defers = [] ∧ A.eval (.tmp 1) = .slice (some ⟨pb, po, none⟩) L.length mc ∧ A.eval (.tmp 5) = .pointer (some ⟨cb, 0, none⟩) ∧ A.eval (.tmp 8) = .int .i64 (k : Int) ∧ A.eval (.tmp 9) = .pointer (some ⟨W.heap.size, 0, none⟩) ∧ A.eval (.tmp 10) = .int .i64 (q : Int) ∧
     Cx w W' [ownI w.heap.size 59 3 vl NL.length (rwS ljF 3 NL), listI rbI NL, vhI 43 W.heap.size 14 14 (ipF cc.rd cc.bad vl), vhI 40 cb 297 297 (clG fr D), agI w.heap.size D]) cc.LL.length
    ⟨0, .slice none 0 0, [], Nat.zero_le _, by omega, rfl, rfl, (szL _ _).trans hs, (defL _ _).trans hd, Qv, Qv, Qv, Qv, Qv, (H.add (Below.refl _ _) (listI rbI []) (fun x hx => by cases hx) (fun j ⟨x, hx, _⟩ => by cases hx)).add (Below.refl _ _) (ownI w.heap.size 59 3 (.slice none 0 0) 0 []) (World.ownsRow_nil _ _ _ _) (fun j e => nomatch e)⟩ (fun r2 B2 W2 hI2 => ?_)
   clear b1 b5 b8 hs hd H
   obtain ⟨q, vl, NL, hq, hqr, hNl, hNy, hs, hd, b1, b5, b8, b9, b10, H⟩ := hI2
   refine c_nx ?_
   refine c_rs (m_start ?_)
   iterate 3 refine qa ?_
   refine qg (run_ixSC _ _ _ _ rfl SlcK.out SizK.out Qv Qv rfl kn _) ?_
   refine qa ?_
   refine qg (run_lodX OneK.out (at_below hlies H.bel) rfl Qv) ?_
   refine qa ?_
   refine qg (run_lssI _ _ rfl Qv Qv rfl _) ?_
   refine l_nx ?_
   refine q_if (fun h => ?_) (fun h => ?_)
   ·have qn : q < cc.LL.length := by have := of_decide_eq_true h; omega
    have hqc := List.getElem?_eq_getElem qn
    obtain ⟨c, ec⟩ : ∃ c, c = cc.LL[q] := ⟨_, rfl⟩
    rw [← ec] at hqc
    have hcm : c ∈ cc.LL := List.mem_of_getElem? hqc
    obtain ⟨lb, lo, elo, hlc⟩ := hcc.jr.1 (by omega)
    have hlc := hlc q c hqc
    have hlb := hcc.jr.2 c hcm
    rw [elo] at hlies
    refine c_fin ?_
    refine c_nx (c_block ?_)
    refine c_rs ?_
    iterate 2 refine qa ?_
    refine qg (run_ixSC _ _ _ _ rfl SlcK.out SizK.out Qv Qv rfl kn _) ?_
    refine qa ?_
    refine qg (run_lodX OneK.out (at_below hlies H.bel) rfl Qv) ?_
    refine qa ?_
    refine qg (run_ixSC _ _ _ _ rfl SlcK.out SizK.out Qv Qv rfl qn _) ?_
    refine qg (run_lodCs (g := ljF c) ManyK.out (fun j hj => at_below (hlc j hj) H.bel) rfl Qv) ?_
    refine q_al H ?_
    clear H
    intro w8 H z8
    refine q_sp0 H stP_whole (ljF1 c) ?_
    clear H
    intro w9 H z9
    refine l_nx ?_
    refine c_rs ?_
    refine qa ?_
    refine qg (run_lod1 _ _ rfl OneK.out Qv H.v0 (by omega) (show _ = Value.slice c.ao c.y.n c.cap from rfl)) ?_
    refine q_c1 (roomyB_any c.ao c.y.n c.cap c.y.g w9 hlb.2.2.1 (hlb.1.below H.bel)) ?_
    rintro e w10 ⟨rb, rc, rfl, hrb, hrv, k10⟩
    refine ⟨_, rfl, ?_⟩
    obtain ⟨nw, enw⟩ : ∃ nw : Lj, nw = ⟨c.y, some ⟨rb, 0, none⟩, rc⟩ := ⟨_, rfl⟩
    have eny : nw.y = c.y := by rw [enw]
    have enV : ljV nw = .slice (some ⟨rb, 0, none⟩) c.y.n rc := by rw [enw]; rfl
    replace H := H.add k10 (rbI nw) (by rw [enw]; exact ⟨rfl, hrv⟩) (fun j (e : j = blkO nw) => by rw [e, enw]; exact hrb)
    refine qa ?_
    refine q_st1 (g' := ljF nw) H (fun j hj => by
     show stW (lyF c.y.ph c.y.wo (ljV c)) _ _ j = lyF nw.y.ph nw.y.wo (ljV nw) j
     rw [eny, enV]
     exact lyF_put _ _ _ _ j hj) ?_
    clear H
    intro w11 H z11
    refine l_nx ?_
    refine c_region ?_
    refine qa ?_
    refine qg (run_lod1 _ _ rfl OneK.out Qv H.v4 (by omega) (show _ = vl from rfl)) ?_
    refine qg (run_loadP _ _ rfl ManyK.out Qv H.v1 (by omega)) ?_
    refine m_do rfl (wanted_rd rfl) (fun K hK => ?_)
    refine wp_oneG (f := ljF nw) SlcK.out ManyK.out ZerK.out (by decide) (by decide) rfl Qv ?_
    intro w12 m12 k12 z12
    have hsz := H.size
    replace H := H.call k12
    refine hK _ _ ?_
    clear hK K
    refine q_ap2 (bytes := 40) H (rdc_own (rwS_own1 (B := w.heap.size) (F := ljF) (x := nw) m12 (by omega))) (rwS_one (fun x _ j hj => by match j, hj with | 0, _ => rfl | 1, _ => rfl | 2, _ => rfl)) (by unfold maxLen; omega) (by omega) ?_
    clear H
    intro vl' w13 H
    have hv1 : vl'.oneCell' = true ∧ vl'.cells = #[vl'] := by
     have ho : World.ownsRow _ _ _ _ _ _ _ := H.o2
     obtain ⟨a, cp, rfl, _⟩ := rw_slice ho
     exact ⟨rfl, rfl⟩
    refine qa ?_
    refine q_st4 (g' := ipF cc.rd cc.bad vl') H (ipF_lies _ _ _ _) ?_ (h1 := hv1.1) (h2 := hv1.2)
    clear H
    intro w14 H z14
    refine l_finB ?_
    refine c_region ?_
    repeat refine qa ?_
    have H1 := (list_push (f := rbI) (y := nw) ((H.sub (.cons_cons _ (.cons _ (List.Sublist.refl _)))).f2.f1)).f1
    refine l_round ⟨cc.LL.length - (q + 1), by omega, q + 1, vl', NL ++ [nw], by omega, by omega, by rw [List.length_append, hNl]; rfl, ?_, (szL _ _).trans hs, (defL _ _).trans hd, Qv, Qv, Qv, Qv, Eq.trans Qv (by rw [Int.natCast_add]; rfl), ?_⟩
    ·rw [List.map_append, hNy, List.take_add_one, hqc, List.map_append]
     show _ ++ [nw.y] = _ ++ [c.y]
     rw [eny]
    ·rw [List.length_append, rwS_app]
     exact H1
   ·have eq : q = cc.LL.length := by have := of_decide_eq_false h; omega
    rw [eq, List.take_length] at hNy
    rw [eq] at hNl
    have hlr : World.ownsRow _ _ _ _ _ _ _ := H.o0
    obtain ⟨lo', lc', rfl, hlc'⟩ := rw_slice hlr
    have hNm : ∀ c', c' ∈ NL → ∃ c, c ∈ cc.LL ∧ c.y = c'.y := fun c' hc' => by
     have : c'.y ∈ cc.LL.map Lj.y := by rw [← hNy]; exact List.mem_map_of_mem hc'
     obtain ⟨c, hc, e⟩ := List.mem_map.1 this
     exact ⟨c, hc, e⟩
    refine c_exit (x_out ?_)
    refine c_newM (fun A W' => A.tmps.size = 198 ∧ A.defers = [] ∧ A.eval (.tmp 1) = .slice (some ⟨pb, po, none⟩) L.length mc ∧ A.eval (.tmp 5) = .pointer (some ⟨cb, 0, none⟩) ∧ A.eval (.tmp 8) = .int .i64 (k : Int) ∧ A.eval (.tmp 9) = .pointer (some ⟨W.heap.size, 0, none⟩) ∧ Cx w W' [ownI w.heap.size 59 3 (.slice lo' NL.length lc') NL.length (rwS ljF 3 NL), listI rbI NL, vhI 43 W.heap.size 14 14 (ipF cc.rd cc.bad (.slice lo' NL.length lc')), vhI 40 cb 297 297 (clG fr D), agI w.heap.size D])
     ⟨(szL _ _).trans hs, (defL _ _).trans hd, Qv, Qv, Qv, Qv, H⟩ (fun A W3 hT => ?_)
    clear b1 b5 b8 b9 b10 hs hd H hlr
    obtain ⟨hs, hd, b1, b5, b8, b9, H⟩ := hT
    refine c_rs (m_start ?_)
    refine qg (run_loadP _ _ rfl ManyK.out Qv H.v3 (by omega)) ?_
    refine q_al H ?_
    clear H
    intro w15 H z15
    refine q_sp0 H stP_whole (clG_one _ _) ?_
    clear H
    intro w16 H z16
    refine l_nx ?_
    refine c_nx ?_
    refine c_rs ?_
    refine qa ?_
    refine l_nx ?_
    refine c_block ?_
    refine c_loop (fun r A W' => ∃ (i : Nat) (D2 E2 : Nat → Nd × Ad), i ≤ 4 ∧ 4 - i ≤ r ∧ (∀ j, j < 4 → (D2 j).1 = (D j).1) ∧ (∀ j, j < i → E2 j = D2 j) ∧ A.tmps.size = 198 ∧ A.defers = [] ∧ A.eval (.tmp 1) = .slice (some ⟨pb, po, none⟩) L.length mc ∧ A.eval (.tmp 5) = .pointer (some ⟨cb, 0, none⟩) ∧ A.eval (.tmp 8) = .int .i64 (k : Int) ∧ A.eval (.tmp 9) = .pointer (some ⟨W.heap.size, 0, none⟩) ∧ A.eval (.tmp 12) = .pointer (some ⟨W3.heap.size, 0, none⟩) ∧ A.eval (.tmp 13) = .int .i64 (i : Int) ∧
      Cx w W' [agI w.heap.size E2, vhI 40 W3.heap.size 297 297 (clG fr D2), ownI w.heap.size 59 3 (.slice lo' NL.length lc') NL.length (rwS ljF 3 NL), listI rbI NL, vhI 43 W.heap.size 14 14 (ipF cc.rd cc.bad (.slice lo' NL.length lc')), vhI 40 cb 297 297 (clG fr D), agI w.heap.size D]) 4
     ⟨0, D, fun _ => (zeroN, (none, 0)), Nat.zero_le _, by omega, fun _ _ => rfl, fun j h => absurd h (Nat.not_lt_zero j), (szL _ _).trans hs, (defL _ _).trans hd, Qv, Qv, Qv, Qv, Qv, Qv, H.add (Below.refl _ _) (agI w.heap.size (fun _ => (zeroN, (none, 0)))) (fun _ _ => World.ownsRow_nil _ _ _ _) (fun j ⟨_, _, e⟩ => absurd e (fun e => nomatch e))⟩ (fun r3 B3 W4 hI3 => ?_)
    clear b1 b5 b8 b9 hs hd H
    obtain ⟨i, D2, E2, hi, hir, hD2, hE2, hs, hd, b1, b5, b8, b9, b12, b13, H⟩ := hI3
    refine c_nx ?_
    refine c_rs (m_start ?_)
    iterate 2 refine qa ?_
    refine l_nx ?_
    refine q_if (fun h => ?_) (fun h => ?_)
    ·have i4 : i < 4 := by have := of_decide_eq_true h; omega
     have hvA : (D i).1.vA.length ≤ 140737488351232 := (hcl.2 i i4).vA
     refine c_fin ?_
     refine c_nx (c_block ?_)
     refine c_region ?_
     iterate 6 refine qa ?_
     refine qg (run_lod1 _ _ rfl OneK.out Qv H.v5 (by omega) (clG_ags fr D i)) ?_
     refine m_do rfl (wanted_rd rfl) (fun K hK => ?_)
     refine wp_joinA rfl inferInstance H.size Qv Qv (World.ownsRow_nil _ _ _ _) (sr_rdc (agRd_of (H.o6 i i4))) (rowV_one _ _ (fun _ _ => rfl)) (by unfold maxLen; omega) (by omega) ?_
     intro v' w17 o17 g17 f17
     rw [Nat.zero_add, List.nil_append, ← hD2 i i4] at o17
     obtain ⟨a17, c17, rfl, hc17⟩ := rw_slice o17
     have k17 := below_grown g17 (fun k e => nomatch e)
     replace H := H.add k17 (agJ w.heap.size ((D2 i).1, (a17, c17))) o17 (fun j e => (f17 j e).resolve_left (fun e => nomatch e))
     refine hK _ _ ?_
     clear hK K
     iterate 4 refine qa ?_
     refine q_st2 (g' := clG fr (upM D2 i ((D2 i).1, (a17, c17)))) H (clG_list fr D2 i (a17, c17)) ?_
     clear H
     intro w18 H z18
     refine l_finB ?_
     refine c_region ?_
     repeat refine qa ?_
     refine l_round ⟨4 - (i + 1), by omega, i + 1, _, upM E2 i ((D2 i).1, (a17, c17)), by omega, by omega, fun j hj => ?_, fun j hj => ?_, (szL _ _).trans hs, (defL _ _).trans hd, Qv, Qv, Qv, Qv, Qv, Eq.trans Qv (by rw [Int.natCast_add]; rfl), four_set (g := agJ w.heap.size) i H⟩
     ·by_cases e : j = i
      ·rw [e, upM_same]; exact hD2 i i4
      ·rw [upM_other _ _ e]; exact hD2 j hj
     ·by_cases e : j = i
      ·rw [e, upM_same, upM_same]
      ·rw [upM_other _ _ e, upM_other _ _ e]; exact hE2 j (by omega)
    ·have e4 : i = 4 := by have := of_decide_eq_false h; omega
     rw [e4] at hE2
     replace H := H.wk (y := agI w.heap.size D2) (fun h j hj => by
      have this : (agJ w.heap.size (E2 j)).p W4 := h j hj
      rw [hE2 j hj] at this
      exact this) (fun x ⟨j, hj, hx⟩ => ⟨j, hj, by
      show (agJ w.heap.size (E2 j)).foot x
      rw [hE2 j hj]
      exact hx⟩)
     refine c_exit (x_out ?_)
     refine c_newM (fun A W' => A.tmps.size = 198 ∧ A.defers = [] ∧ A.eval (.tmp 1) = .slice (some ⟨pb, po, none⟩) L.length mc ∧ A.eval (.tmp 5) = .pointer (some ⟨cb, 0, none⟩) ∧ A.eval (.tmp 8) = .int .i64 (k : Int) ∧ A.eval (.tmp 9) = .pointer (some ⟨W.heap.size, 0, none⟩) ∧ A.eval (.tmp 12) = .pointer (some ⟨W3.heap.size, 0, none⟩) ∧ Cx w W' [agI w.heap.size D2, vhI 40 W3.heap.size 297 297 (clG fr D2), ownI w.heap.size 59 3 (.slice lo' NL.length lc') NL.length (rwS ljF 3 NL), listI rbI NL, vhI 43 W.heap.size 14 14 (ipF cc.rd cc.bad (.slice lo' NL.length lc')), vhI 40 cb 297 297 (clG fr D), agI w.heap.size D])
      ⟨(szL _ _).trans hs, (defL _ _).trans hd, Qv, Qv, Qv, Qv, Qv, H⟩ (fun A W5 hT => ?_)
     clear b1 b5 b8 b9 b12 b13 hs hd H
     obtain ⟨hs, hd, b1, b5, b8, b9, b12, H⟩ := hT
     refine c_rs (m_start ?_)
     refine qg (run_loadP _ _ rfl ManyK.out Qv H.v5 (by omega)) ?_
     refine qg (run_loadP _ _ rfl ManyK.out Qv H.v4 (by omega)) ?_
     have hsz5 := H.size
     have hlr : World.ownsRow _ _ _ _ _ _ _ := H.o2
     have hrb : ∀ c', c' ∈ NL → (rbI c').p W5 := H.o3
     refine q_c2 (frame_ok cc.x fr D lo' lc' NL _ hNy.symm hcc.ip hcl (fun i hi => agRd_of (H.o6 i hi)) ⟨rdS_own hlr (by decide), fun c' hc' => by
      obtain ⟨c, hc, e⟩ := hNm c' hc'
      have h1 := rb_sr (hrb c' hc')
      have h2 := (hcc.jr.2 c hc).2.2
      rw [e] at h2
      exact ⟨h1.1, h1.2, h2.1, h2.2⟩⟩) ?_
     clear hlr hrb
     have hFok := frC_ok hcc.ip hcl
     obtain ⟨F, eF⟩ : ∃ F : Cl, F = frC cc.x ⟨fr, fun i => (D i).1⟩ := ⟨_, rfl⟩
     obtain ⟨fe, efe⟩ : ∃ fe : Int, fe = frE cc.x ⟨fr, fun i => (D i).1⟩ := ⟨_, rfl⟩
     rw [← eF, ← efe]
     rw [← eF] at hFok
     rintro e w19 ⟨D', vr, rfl, hD', G⟩
     replace H := H.plus G
     refine ⟨_, rfl, ?_⟩
     refine qa ?_
     refine qg (run_ext3A _ rfl Qv _) ?_
     refine qg (run_ext3B _ rfl Qv _) ?_
     refine qg (run_ext3C _ rfl Qv _) ?_
     refine q_al H ?_
     clear H
     intro w20 H z20
     refine q_sp0 H stP_whole (clG_one _ _) ?_
     clear H
     intro w21 H z21
     iterate 2 refine qa ?_
     refine l_nx ?_
     replace H := (agI_base (H.sub (.cons_cons _ (.cons _ (List.Sublist.refl _)))).f1 hsz5).f1
     obtain ⟨db, edb⟩ : ∃ db, db = w19.heap.size := ⟨_, rfl⟩
     rw [← edb] at H ⊢
     refine c_nx ?_
     refine c_rs ?_
     refine qa ?_
     refine l_nx ?_
     refine c_block ?_
     refine c_loop (fun r A W' => ∃ (q : Nat), q ≤ NL.length ∧ NL.length - q ≤ r ∧ A.tmps.size = 198 ∧ A.defers = [] ∧ A.eval (.tmp 1) = .slice (some ⟨pb, po, none⟩) L.length mc ∧ A.eval (.tmp 5) = .pointer (some ⟨cb, 0, none⟩) ∧ A.eval (.tmp 8) = .int .i64 (k : Int) ∧ A.eval (.tmp 9) = .pointer (some ⟨W.heap.size, 0, none⟩) ∧ A.eval (.tmp 12) = .pointer (some ⟨W3.heap.size, 0, none⟩) ∧ A.eval (.tmp 14) = .pointer (some ⟨db, 0, none⟩) ∧ A.eval (.tmp 16) = .int .i64 fe ∧ A.eval (.tmp 17) = .int .i64 (q : Int) ∧
       Cx w W' [vhI 40 db 297 297 (clG F.fr D'), agI w.heap.size D', agI w.heap.size D2, vhI 40 W3.heap.size 297 297 (clG fr D2), ownI w.heap.size 59 3 (.slice lo' NL.length lc') NL.length (rwS ljF 3 NL), listI rbI NL, vhI 43 W.heap.size 14 14 (ipF cc.rd cc.bad (.slice lo' NL.length lc')), vhI 40 cb 297 297 (clG fr D), agI w.heap.size D]) NL.length
      ⟨0, Nat.zero_le _, by omega, (szL _ _).trans hs, (defL _ _).trans hd, Qv, Qv, Qv, Qv, Qv, Qv, Qv, Qv, H⟩ (fun r4 B4 W6 hI4 => ?_)
     clear b1 b5 b8 b9 b12 hs hd H
     obtain ⟨q, hq, hqr, hs, hd, b1, b5, b8, b9, b12, b14, b16, b17, H⟩ := hI4
     refine c_nx ?_
     refine c_rs (m_start ?_)
     iterate 2 refine qa ?_
     refine qg (run_lod1 _ _ rfl OneK.out Qv H.v6 (by omega) (show _ = Value.slice lo' NL.length lc' from rfl)) ?_
     refine qa ?_
     refine qg (run_lssI _ _ rfl Qv Qv rfl _) ?_
     refine l_nx ?_
     refine q_if (fun h => ?_) (fun h => ?_)
     ·have qn : q < NL.length := by have := of_decide_eq_true h; omega
      have hqc' := List.getElem?_eq_getElem qn
      obtain ⟨c', ec'⟩ : ∃ c', c' = NL[q] := ⟨_, rfl⟩
      rw [← ec'] at hqc'
      have qn2 : q < cc.LL.length := by omega
      have hqc := List.getElem?_eq_getElem qn2
      obtain ⟨c, ec⟩ : ∃ c, c = cc.LL[q] := ⟨_, rfl⟩
      rw [← ec] at hqc
      have ey : c'.y = c.y := by
       have h1 : (NL.map Lj.y)[q]? = some c'.y := by rw [List.getElem?_map, hqc']; rfl
       rw [hNy, List.getElem?_map, hqc] at h1
       exact (Option.some.inj h1).symm
      have hcm : c ∈ cc.LL := List.mem_of_getElem? hqc
      obtain ⟨lb, lo, elo, hlc⟩ := hcc.jr.1 (by omega)
      have hlc := hlc q c hqc
      have hlb := hcc.jr.2 c hcm
      rw [elo] at hlies
      have hlr : World.ownsRow _ _ _ _ _ _ _ := H.o4
      obtain ⟨nb, no, eno, hnc⟩ := rdS_own hlr (by decide) (show 0 < NL.length by omega)
      have hnc := hnc q c' hqc'
      have hrb : (rbI c').p W6 := H.o5 c' (List.mem_of_getElem? hqc')
      have hIN : W6.cell? ⟨W.heap.size, 0 + 13, none⟩ = some (.slice (some ⟨nb, no, none⟩) NL.length lc') := (H.v6.cell (i := 0 + 13) (by omega)).trans (by rw [← eno]; rfl)
      have hNB : W6.cell? ⟨nb, no + q * 3 + 2, none⟩ = some (.slice (some ⟨blkO c', 0, none⟩) c.y.n c'.cap) := (hnc 2 (by omega)).trans (by
       show some (Value.slice c'.ao c'.y.n c'.cap) = _
       rw [hrb.1, ey])
      have hLB : w.cell? ⟨lb, lo + q * 3 + 2, none⟩ = some (.slice c.ao c.y.n c.cap) := hlc 2 (by omega)
      have hli6 := at_below hlies H.bel
      have hLB6 := at_below hLB H.bel
      refine c_fin ?_
      refine c_nx (c_block ?_)
      refine c_nx ?_
      replace H := H.drew
      have kd : Below W6.heap.size W6 W6.drew := ⟨rfl, rfl, rfl, Nat.le_refl _, fun _ _ => rfl⟩
      have hS : (fun W' => Below W6.heap.size W6 W') W6.drew := kd
      refine c_rj (S := fun W' => Below W6.heap.size W6 W') (.mv 0 (.rd 1 (.mv 2 (.mv 3 (.mv 4 (.rd 5 (.mv 6 (.mv 7 (.mv 8 (.mv 9 (.rd 10 (.mv 11 (.mv 12 (.mv 13 (.rd 14 (.go 15 (.mv 16 .fin))))))))))))))))) [] (by kernel_rfl) (by kernel_rfl) ?_
      refine qj ?_
      refine Yr rfl hS (fun _ H => run_lodX OneK.out (at_below hIN H) rfl Qv) ?_
      refine qj ?_
      refine j_mv rfl rfl (fun _ _ _ h => h) (wanted_rd rfl) (fun w => run_ixSC _ _ _ _ rfl SlcK.out SizK.out Qv Qv rfl qn w) ?_
      refine qj ?_
      refine Yr rfl hS (fun _ H => run_lodX OneK.out (at_below hNB H) rfl Qv) ?_
      iterate 2 refine qj ?_
      refine j_mv rfl rfl (fun _ _ _ h => h) (wanted_rd rfl) (fun w => run_ixSC _ _ _ _ rfl SlcK.out SizK.out Qv Qv rfl kn w) ?_
      refine qj ?_
      refine Yr rfl hS (fun _ H => run_lodX OneK.out (at_below hli6 H) rfl Qv) ?_
      refine qj ?_
      refine j_mv rfl rfl (fun _ _ _ h => h) (wanted_rd rfl) (fun w => run_ixSC _ _ _ _ rfl SlcK.out SizK.out Qv Qv rfl qn2 w) ?_
      refine qj ?_
      refine Yr rfl hS (fun _ H => run_lodX OneK.out (at_below hLB6 H) rfl Qv) ?_
      refine j_do rfl rfl (wanted_rd rfl) (fun K hK => ?_)
      have hrb' := ((rbI c').ok hrb (fun j hj _ => kd.block j hj)).2
      rw [ey] at hrb'
      refine wp_call2 _ 17 _ _ _ rfl Qv Qv (EntK.out _ _) (stayedB_any (blkO c') c'.cap c.ao c.y.n c.cap c.y.g _ hlb.2.2.1 hrb' (hlb.1.below H.bel).rd) ?_
      rintro e w22 ⟨rfl, k22⟩
      replace H := H.call k22
      refine ⟨_, rfl, hK _ _ (fun _ h => h.trans (k22.mono h.size)) ?_⟩
      clear hK K
      refine qj ?_
      refine j_nx ?_
      refine q_no rfl (c_finB ?_)
      refine c_region ?_
      repeat refine qa ?_
      refine l_round ⟨NL.length - (q + 1), by omega, q + 1, by omega, by omega, (szL _ _).trans hs, (defL _ _).trans hd, Qv, Qv, Qv, Qv, Qv, Qv, Qv, Eq.trans Qv (by rw [Int.natCast_add]; rfl), H⟩
     ·refine c_exit (x_out ?_)
      refine c_newM (fun A W' => A.tmps.size = 198 ∧ A.defers = [] ∧ A.eval (.tmp 1) = .slice (some ⟨pb, po, none⟩) L.length mc ∧ A.eval (.tmp 5) = .pointer (some ⟨cb, 0, none⟩) ∧ A.eval (.tmp 8) = .int .i64 (k : Int) ∧ A.eval (.tmp 12) = .pointer (some ⟨W3.heap.size, 0, none⟩) ∧ A.eval (.tmp 14) = .pointer (some ⟨db, 0, none⟩) ∧ A.eval (.tmp 16) = .int .i64 fe ∧
        Cx w W' [vhI 40 db 297 297 (clG F.fr D'), agI w.heap.size D', agI w.heap.size D2, vhI 40 W3.heap.size 297 297 (clG fr D2), vhI 40 cb 297 297 (clG fr D), agI w.heap.size D])
       ⟨(szL _ _).trans hs, (defL _ _).trans hd, Qv, Qv, Qv, Qv, Qv, Qv, H.sub (.cons_cons _ (.cons_cons _ (.cons_cons _ (.cons_cons _ (.cons _ (.cons _ (.cons _ (List.Sublist.refl _))))))))⟩ (fun A W7 hT => ?_)
      clear b1 b5 b8 b9 b12 b14 b16 b17 hs hd H
      obtain ⟨hs, hd, b1, b5, b8, b12, b14, b16, H⟩ := hT
      refine c_nx ?_
      refine c_rs (m_start ?_)
      refine qa ?_
      refine l_nx ?_
      refine c_block ?_
      refine c_loop (fun r A W' => ∃ (i : Nat), i ≤ 4 ∧ 4 - i ≤ r ∧ A.tmps.size = 198 ∧ A.defers = [] ∧ A.eval (.tmp 1) = .slice (some ⟨pb, po, none⟩) L.length mc ∧ A.eval (.tmp 5) = .pointer (some ⟨cb, 0, none⟩) ∧ A.eval (.tmp 8) = .int .i64 (k : Int) ∧ A.eval (.tmp 12) = .pointer (some ⟨W3.heap.size, 0, none⟩) ∧ A.eval (.tmp 14) = .pointer (some ⟨db, 0, none⟩) ∧ A.eval (.tmp 16) = .int .i64 fe ∧ A.eval (.tmp 18) = .int .i64 (i : Int) ∧
        Cx w W' [vhI 40 db 297 297 (clG F.fr D'), agI w.heap.size D', agI w.heap.size D2, vhI 40 W3.heap.size 297 297 (clG fr D2), vhI 40 cb 297 297 (clG fr D), agI w.heap.size D]) 4
       ⟨0, Nat.zero_le _, by omega, (szL _ _).trans hs, (defL _ _).trans hd, Qv, Qv, Qv, Qv, Qv, Qv, Qv, H⟩ (fun r5 B5 W8 hI5 => ?_)
      clear b1 b5 b8 b12 b14 b16 hs hd H
      obtain ⟨i, hi, hir, hs, hd, b1, b5, b8, b12, b14, b16, b18, H⟩ := hI5
      refine c_nx ?_
      refine c_rs (m_start ?_)
      iterate 2 refine qa ?_
      refine l_nx ?_
      refine q_if (fun h => ?_) (fun h => ?_)
      ·have i4 : i < 4 := by have := of_decide_eq_true h; omega
       have hvA' : (D' i).1.vA.length ≤ 140737488351232 := by rw [hD' i i4]; exact (hFok.2 i i4).vA
       have hvA : (D i).1.vA.length ≤ 140737488351232 := (hcl.2 i i4).vA
       refine c_fin ?_
       refine c_nx (c_block ?_)
       refine c_rs ?_
       iterate 5 refine qa ?_
       refine qg (run_lod1 _ _ rfl OneK.out Qv H.v0 (by omega) (clG_ags F.fr D' i)) ?_
       refine qa ?_
       refine l_nx ?_
       refine c_rs ?_
       refine qa ?_
       refine m_do rfl (wanted_rd rfl) (fun K hK => ?_)
       refine wp_joinA rfl inferInstance H.size Qv Qv (World.ownsRow_nil _ _ _ _) (sr_rdc (agRd_of (H.o1 i i4))) (rowV_one _ _ (fun _ _ => rfl)) (by unfold maxLen; omega) (by omega) ?_
       intro v' w23 o23 g23 f23
       rw [Nat.zero_add, List.nil_append] at o23
       obtain ⟨a23, c23, rfl, hc23⟩ := rw_slice o23
       have k23 := below_grown g23 (fun k e => nomatch e)
       replace H := H.add k23 (agJ w.heap.size ((D' i).1, (a23, c23))) o23 (fun j e => (f23 j e).resolve_left (fun e => nomatch e))
       refine hK _ _ ?_
       clear hK K
       refine qa ?_
       refine l_nx ?_
       obtain ⟨gx, g0, hgx, hgf, hgn⟩ := ag_full (H.o2 i i4)
       have far := far_of H.f2 (hgf.imp (fun h => ⟨i, i4, h⟩) id)
       have hC : w23.cell? ⟨cb, 0 + 1 + i * 74 + 71 + 2, none⟩ = some (.slice (D i).2.1 (D i).1.vA.length (D i).2.2) := (H.v5.cell (i := 0 + 1 + i * 74 + 71 + 2) (by omega)).trans (congrArg some (clG_ags fr D i))
       have hWs : w23.cell? ⟨W3.heap.size, 0 + 1 + i * 74 + 71 + 2, none⟩ = some (.slice (D2 i).2.1 (D2 i).1.vA.length (D2 i).2.2) := (H.v4.cell (i := 0 + 1 + i * 74 + 71 + 2) (by omega)).trans (congrArg some (clG_ags fr D2 i))
       have fC : cb ≠ gx := far _ (.tail _ (.tail _ (.tail _ (.tail _ (.head _))))) _ rfl
       have fW : W3.heap.size ≠ gx := far _ (.tail _ (.tail _ (.tail _ (.head _)))) _ rfl
       refine c_nx ?_
       refine c_rs ?_
       refine qa ?_
       refine l_nx ?_
       refine c_block ?_
       refine c_loop (fun r A W' => ∃ (j : Nat), j ≤ (D' i).1.vA.length ∧ (D' i).1.vA.length - j ≤ r ∧ A.tmps.size = 198 ∧ A.defers = [] ∧ A.eval (.tmp 1) = .slice (some ⟨pb, po, none⟩) L.length mc ∧ A.eval (.tmp 5) = .pointer (some ⟨cb, 0, none⟩) ∧ A.eval (.tmp 8) = .int .i64 (k : Int) ∧ A.eval (.tmp 12) = .pointer (some ⟨W3.heap.size, 0, none⟩) ∧ A.eval (.tmp 14) = .pointer (some ⟨db, 0, none⟩) ∧ A.eval (.tmp 16) = .int .i64 fe ∧ A.eval (.tmp 18) = .int .i64 (i : Int) ∧
         A.eval (.tmp 19) = .slice (D' i).2.1 (D' i).1.vA.length (D' i).2.2 ∧ A.eval (.tmp 20) = .slice a23 (D' i).1.vA.length c23 ∧ A.eval (.tmp 21) = .int .i64 (j : Int) ∧ Kept gx w23 W' ∧ (0 < (D' i).1.vA.length → Vh 4 W' gx (D' i).2.2 (D' i).2.2 (flpF g0 j))) (D' i).1.vA.length
        ⟨0, Nat.zero_le _, by omega, (szL _ _).trans hs, (defL _ _).trans hd, Qv, Qv, Qv, Qv, Qv, Qv, Qv, Qv, Qv, Qv, kept_refl _ _, fun h => (hgx h).2.1.congr (fun x _ => by unfold flpF; rw [if_neg (Nat.not_lt_zero _)])⟩ (fun r6 B6 W9 hI6 => ?_)
       clear b1 b5 b8 b12 b14 b16 b18 hs hd
       obtain ⟨j, hj, hjr, hs, hd, b1, b5, b8, b12, b14, b16, b18, b19, b20, b21, kW, vW⟩ := hI6
       refine c_nx ?_
       refine c_rs (m_start ?_)
       iterate 3 refine qa ?_
       refine qg (run_lssI _ _ rfl Qv Qv rfl _) ?_
       refine l_nx ?_
       refine q_if (fun h => ?_) (fun h => ?_)
       ·have jn : j < (D' i).1.vA.length := by have := of_decide_eq_true h; omega
        obtain ⟨ex, _, hle, hg0⟩ := hgx (by omega)
        have vW := vW (by omega)
        have hg0j := hg0 j jn
        rw [ex] at b19
        refine c_fin ?_
        refine c_nx (c_block ?_)
        refine c_region ?_
        iterate 4 refine qa ?_
        refine qg (run_ixSC _ _ _ _ rfl SlcK.out SizK.out Qv Qv rfl jn _) ?_
        refine qg (run_lod1 _ _ rfl OneK.out Qv vW (by omega) (show _ = Value.bool (bA (D' i).1 j) by
         rw [show 0 + j * 1 = j by omega]
         unfold flpF
         rw [if_neg (Nat.lt_irrefl _)]
         exact hg0j)) ?_
        refine qa ?_
        refine qg (run_ixSC _ _ _ _ rfl SlcK.out SizK.out Qv Qv rfl jn _) ?_
        refine m_st (wanted_rd rfl) (fun K hK => ?_)
        refine wp_sto1 _ _ _ _ rfl OneK.out Qv Qv vW (by omega) rfl rfl rfl ?_
        intro w24 m24 k24 z24
        refine hK _ ?_
        clear hK K
        refine l_finB ?_
        refine c_region ?_
        repeat refine qa ?_
        refine l_round ⟨(D' i).1.vA.length - (j + 1), by omega, j + 1, by omega, by omega, (szL _ _).trans hs, (defL _ _).trans hd, Qv, Qv, Qv, Qv, Qv, Qv, Qv, Eq.trans Qv (by rw [ex]), Qv, Eq.trans Qv (by rw [Int.natCast_add]; rfl), kW.trans k24 (Or.inl rfl), fun _ => m24.congr (flp_next g0 hg0j)⟩
       ·have ej : j = (D' i).1.vA.length := by have := of_decide_eq_false h; omega
        refine c_exit (x_out ?_)
        refine c_newM (fun A W' => A.tmps.size = 198 ∧ A.defers = [] ∧ A.eval (.tmp 1) = .slice (some ⟨pb, po, none⟩) L.length mc ∧ A.eval (.tmp 5) = .pointer (some ⟨cb, 0, none⟩) ∧ A.eval (.tmp 8) = .int .i64 (k : Int) ∧ A.eval (.tmp 12) = .pointer (some ⟨W3.heap.size, 0, none⟩) ∧ A.eval (.tmp 14) = .pointer (some ⟨db, 0, none⟩) ∧ A.eval (.tmp 16) = .int .i64 fe ∧ A.eval (.tmp 18) = .int .i64 (i : Int) ∧
         A.eval (.tmp 19) = .slice (D' i).2.1 (D' i).1.vA.length (D' i).2.2 ∧ A.eval (.tmp 20) = .slice a23 (D' i).1.vA.length c23 ∧ Kept gx w23 W' ∧ (0 < (D' i).1.vA.length → Vh 4 W' gx (D' i).2.2 (D' i).2.2 (flpF g0 (D' i).1.vA.length)))
         ⟨(szL _ _).trans hs, (defL _ _).trans hd, Qv, Qv, Qv, Qv, Qv, Qv, Qv, Qv, Qv, kW, fun h => by have h2 := vW h; rw [ej] at h2; exact h2⟩ (fun A W10 hT => ?_)
        clear b1 b5 b8 b12 b14 b16 b18 b19 b20 b21 hs hd kW vW
        obtain ⟨hs, hd, b1, b5, b8, b12, b14, b16, b18, b19, b20, kW, vW⟩ := hT
        refine c_nx ?_
        refine c_rs (m_start ?_)
        refine qa ?_
        refine l_nx ?_
        refine c_block ?_
        refine c_loop (fun r A W' => ∃ (j : Nat), j ≤ (D i).1.vA.length ∧ (D i).1.vA.length - j ≤ r ∧ A.tmps.size = 198 ∧ A.defers = [] ∧ A.eval (.tmp 1) = .slice (some ⟨pb, po, none⟩) L.length mc ∧ A.eval (.tmp 5) = .pointer (some ⟨cb, 0, none⟩) ∧ A.eval (.tmp 8) = .int .i64 (k : Int) ∧ A.eval (.tmp 12) = .pointer (some ⟨W3.heap.size, 0, none⟩) ∧ A.eval (.tmp 14) = .pointer (some ⟨db, 0, none⟩) ∧ A.eval (.tmp 16) = .int .i64 fe ∧ A.eval (.tmp 18) = .int .i64 (i : Int) ∧
         A.eval (.tmp 19) = .slice (D' i).2.1 (D' i).1.vA.length (D' i).2.2 ∧ A.eval (.tmp 20) = .slice a23 (D' i).1.vA.length c23 ∧ A.eval (.tmp 22) = .int .i64 (j : Int) ∧ Kept gx w23 W' ∧ (0 < (D' i).1.vA.length → Vh 4 W' gx (D' i).2.2 (D' i).2.2 (flpF g0 (D' i).1.vA.length))) (D i).1.vA.length
         ⟨0, Nat.zero_le _, by omega, (szL _ _).trans hs, (defL _ _).trans hd, Qv, Qv, Qv, Qv, Qv, Qv, Qv, Qv, Qv, Qv, kW, vW⟩ (fun r7 B7 W11 hI7 => ?_)
        clear b1 b5 b8 b12 b14 b16 b18 b19 b20 hs hd kW vW
        obtain ⟨j2, hj2, hj2r, hs, hd, b1, b5, b8, b12, b14, b16, b18, b19, b20, b22, kW, vW⟩ := hI7
        refine c_nx ?_
        refine c_rs (m_start ?_)
        iterate 6 refine qa ?_
        refine qg (run_lodX OneK.out (at_kept hC kW fC) rfl Qv) ?_
        refine qa ?_
        refine qg (run_lssI _ _ rfl Qv Qv rfl _) ?_
        refine l_nx ?_
        refine q_if (fun h => ?_) (fun h => ?_)
        ·have jm : j2 < (D i).1.vA.length := by have := of_decide_eq_true h; omega
         have jm2 : j2 < (D2 i).1.vA.length := by rw [hD2 i i4]; exact jm
         obtain ⟨gC, eC, ftC, cC⟩ := ag_cells (H.o6 i i4) (by omega)
         obtain ⟨gW, eW, ftW, cW⟩ := ag_cells (H.o3 i i4) (by omega)
         have fgC : gC ≠ gx := far _ (.tail _ (.tail _ (.tail _ (.tail _ (.tail _ (.head _)))))) _ ⟨i, i4, ftC⟩
         have fgW : gW ≠ gx := far _ (.tail _ (.tail _ (.head _))) _ ⟨i, i4, ftW⟩
         have cC : W11.cell? ⟨gC, 0 + j2 * 1, none⟩ = some (.bool (bA (D i).1 j2)) := by
          rw [show 0 + j2 * 1 = j2 by omega]
          exact at_kept (cC j2 jm) kW fgC
         have cW : W11.cell? ⟨gW, 0 + j2 * 1, none⟩ = some (.bool (bA (D2 i).1 j2)) := by
          rw [show 0 + j2 * 1 = j2 by omega]
          exact at_kept (cW j2 jm2) kW fgW
         have hC2 := at_kept hC kW fC
         have hW2 := at_kept hWs kW fW
         rw [eC] at hC2
         rw [eW] at hW2
         refine c_fin ?_
         refine c_nx (c_block ?_)
         refine c_nx ?_
         have hS : (fun W' => Below W11.heap.size W11 W') W11.drew := ⟨rfl, rfl, rfl, Nat.le_refl _, fun _ _ => rfl⟩
         refine c_rj (S := fun W' => Below W11.heap.size W11 W') (.mv 0 (.mv 1 (.mv 2 (.mv 3 (.mv 4 (.rd 5 (.mv 6 (.mv 7 (.rd 8 (.mv 9 (.mv 10 (.mv 11 (.mv 12 (.mv 13 (.rd 14 (.mv 15 (.mv 16 (.rd 17 (.mv 18 .fin))))))))))))))))))) [] (by kernel_rfl) (by kernel_rfl) ?_
         iterate 5 refine qj ?_
         refine Yr rfl hS (fun _ H => run_lodX OneK.out (at_below hC2 H) rfl Qv) ?_
         refine qj ?_
         refine j_mv rfl rfl (fun _ _ _ h => h) (wanted_rd rfl) (fun w => run_ixSC _ _ _ _ rfl SlcK.out SizK.out Qv Qv rfl jm w) ?_
         refine Yr rfl hS (fun _ H => run_lodX OneK.out (at_below cC H) rfl Qv) ?_
         iterate 5 refine qj ?_
         refine Yr rfl hS (fun _ H => run_lodX OneK.out (at_below hW2 H) rfl Qv) ?_
         refine qj ?_
         refine j_mv rfl rfl (fun _ _ _ h => h) (wanted_rd rfl) (fun w => run_ixSC _ _ _ _ rfl SlcK.out SizK.out Qv Qv rfl jm2 w) ?_
         refine Yr rfl hS (fun _ H => run_lodX OneK.out (at_below cW H) rfl Qv) ?_
         refine j_mv rfl rfl (fun _ _ _ h => h) (wanted_rd rfl) (fun w => run_neqM _ _ rfl Qv Qv (by rw [hD2 i i4]) w) ?_
         refine j_nx ?_
         refine q_no rfl (c_finB ?_)
         refine c_region ?_
         repeat refine qa ?_
         refine l_round ⟨(D i).1.vA.length - (j2 + 1), by omega, j2 + 1, by omega, by omega, (szL _ _).trans hs, (defL _ _).trans hd, Qv, Qv, Qv, Qv, Qv, Qv, Qv, Qv, Qv, Eq.trans Qv (by rw [Int.natCast_add]; rfl), ⟨kW.os, kW.tape, kW.output, kW.size, kW.block⟩, fun h => Vh.same (vW h) rfl⟩
        ·refine c_exit (x_out ?_)
         refine c_newM (fun A W' => A.tmps.size = 198 ∧ A.defers = [] ∧ A.eval (.tmp 1) = .slice (some ⟨pb, po, none⟩) L.length mc ∧ A.eval (.tmp 5) = .pointer (some ⟨cb, 0, none⟩) ∧ A.eval (.tmp 8) = .int .i64 (k : Int) ∧ A.eval (.tmp 12) = .pointer (some ⟨W3.heap.size, 0, none⟩) ∧ A.eval (.tmp 14) = .pointer (some ⟨db, 0, none⟩) ∧ A.eval (.tmp 16) = .int .i64 fe ∧ A.eval (.tmp 18) = .int .i64 (i : Int) ∧
          A.eval (.tmp 19) = .slice (D' i).2.1 (D' i).1.vA.length (D' i).2.2 ∧ A.eval (.tmp 20) = .slice a23 (D' i).1.vA.length c23 ∧ Kept gx w23 W' ∧ (0 < (D' i).1.vA.length → Vh 4 W' gx (D' i).2.2 (D' i).2.2 (flpF g0 (D' i).1.vA.length)))
          ⟨(szL _ _).trans hs, (defL _ _).trans hd, Qv, Qv, Qv, Qv, Qv, Qv, Qv, Qv, Qv, kW, vW⟩ (fun A W12 hT => ?_)
         clear b1 b5 b8 b12 b14 b16 b18 b19 b20 b22 hs hd kW vW
         obtain ⟨hs, hd, b1, b5, b8, b12, b14, b16, b18, b19, b20, kW, vW⟩ := hT
         by_cases n0 : 0 < (D' i).1.vA.length
         ·obtain ⟨ex, hv0, hle, hg0⟩ := hgx n0
          obtain ⟨gy, ey, fty, cy⟩ := ag_cells H.o0 n0
          have ey : a23 = some ⟨gy, 0, none⟩ := ey
          have fgy : gy ≠ gx := far _ (.head _) _ fty
          have hsy : Sr W12 a23 (D' i).1.vA.length c23 (tF (bA (D' i).1)) := Or.inr ⟨_, ey, fun x hx => by
           rw [Addr.add_lit, Nat.zero_add]
           exact at_kept (cy x hx) kW fgy⟩
          rw [ex] at b19
          refine c_region (m_start ?_)
          iterate 2 refine qa ?_
          refine m_do rfl (wanted_rd rfl) (fun K hK => ?_)
          refine wp_copyT _ _ _ rfl Qv (vW n0) hle n0 Qv hsy.rd (fun _ => rfl) ?_
          intro w25 m25 k25
          have hB : Below w23.heap.size w23 w25 := kept_back (kW.trans k25 (Or.inl rfl)) hv0 (m25.congr (fun x _ => by
           by_cases c : x < (D' i).1.vA.length
           ·rw [if_pos c]; exact (hg0 x c).symm
           ·rw [if_neg c]; unfold flpF; rw [if_neg c]))
          replace H := (H.call hB).tl
          refine hK _ _ ?_
          clear hK K
          refine l_finB ?_
          refine c_region ?_
          repeat refine qa ?_
          refine l_round ⟨4 - (i + 1), by omega, i + 1, by omega, by omega, (szL _ _).trans hs, (defL _ _).trans hd, Qv, Qv, Qv, Qv, Qv, Qv, Eq.trans Qv (by rw [Int.natCast_add]; rfl), H⟩
         ·have hz := hgn n0
          have n0 : (D' i).1.vA.length = 0 := by omega
          rw [n0] at b19 b20
          refine c_region (m_start ?_)
          iterate 2 refine qa ?_
          refine m_do rfl (wanted_rd rfl) (fun K hK => ?_)
          refine wp_copyT0 _ _ _ rfl Qv Qv ?_
          have hB : Below w23.heap.size w23 W12 := kW.below hz
          replace H := (H.call hB).tl
          refine hK _ _ ?_
          clear hK K
          refine l_finB ?_
          refine c_region ?_
          repeat refine qa ?_
          refine l_round ⟨4 - (i + 1), by omega, i + 1, by omega, by omega, (szL _ _).trans hs, (defL _ _).trans hd, Qv, Qv, Qv, Qv, Qv, Qv, Eq.trans Qv (by rw [Int.natCast_add]; rfl), H⟩
      ·refine c_exit (x_out ?_)
       refine c_newM (fun A W' => A.tmps.size = 198 ∧ A.defers = [] ∧ A.eval (.tmp 1) = .slice (some ⟨pb, po, none⟩) L.length mc ∧ A.eval (.tmp 5) = .pointer (some ⟨cb, 0, none⟩) ∧ A.eval (.tmp 8) = .int .i64 (k : Int) ∧ A.eval (.tmp 14) = .pointer (some ⟨db, 0, none⟩) ∧ A.eval (.tmp 16) = .int .i64 fe ∧
         Cx w W' [vhI 40 cb 297 297 (clG fr D), vhI 40 db 297 297 (clG F.fr D'), agI w.heap.size D', agI w.heap.size D])
        ⟨(szL _ _).trans hs, (defL _ _).trans hd, Qv, Qv, Qv, Qv, Qv, (H.sub (.cons_cons _ (.cons_cons _ (.cons _ (.cons _ (List.Sublist.refl _)))))).f2⟩ (fun A W13 hT => ?_)
       clear b1 b5 b8 b12 b14 b16 b18 hs hd H
       obtain ⟨hs, hd, b1, b5, b8, b14, b16, H⟩ := hT
       refine c_rs (m_start ?_)
       refine qa ?_
       refine qg (run_eqlE _ _ rfl Qv (ev_const _ _) rfl _) ?_
       refine l_nx ?_
       refine q_if (fun h => ?_) (fun h => ?_)
       ·refine c_region ?_
        refine qg (run_loadP _ _ rfl ManyK.out Qv H.v1 (by omega)) ?_
        refine q_sp0 H stP_whole (clG_one _ _) ?_
        clear H
        intro w26 H z26
        refine l_finB ?_
        refine c_region ?_
        repeat refine qa ?_
        refine l_round ⟨L.length - (k + 1), by omega, k + 1, F.fr, D', by omega, by omega, by omega, ⟨hFok.1, fun i hi => by show NdOK (D' i).1; rw [hD' i hi]; exact hFok.2 i hi⟩, (szL _ _).trans hs, (defL _ _).trans hd, Qv, Qv, Eq.trans Qv (by rw [Int.natCast_add]; rfl), H.sub (.cons_cons _ (.cons _ (.cons_cons _ (List.nil_sublist _))))⟩
       ·refine c_finB ?_
        refine c_region ?_
        repeat refine qa ?_
        refine l_round ⟨L.length - (k + 1), by omega, k + 1, fr, D, by omega, by omega, by omega, hcl, (szL _ _).trans hs, (defL _ _).trans hd, Qv, Qv, Eq.trans Qv (by rw [Int.natCast_add]; rfl), H.sub (.cons_cons _ (.cons _ (.cons _ (.cons_cons _ (List.nil_sublist _)))))⟩
  ·iterate 3 refine qa ?_
   refine qg (run_lssI (b := true) _ _ rfl Qv Qv (decide_eq_true (by omega)) _) ?_
   iterate 2 refine qa ?_
   refine qg (run_lssI (b := false) _ _ rfl Qv (ev_const _ _) (decide_eq_false (by omega)) _) ?_
   refine qg (run_pickT' _ _ _ rfl Qv Qv _) ?_
   refine l_nx ?_
   refine q_no rfl ?_
   refine c_exit (x_out ?_)
   refine c_rs ?_
   repeat first | refine qa ?_ | refine l_nx ?_
   exact c_ret (ret_of ((defL _ _).trans hd) (res_t rfl Qv) ⟨rfl, H.bel⟩)
 ·iterate 3 refine qa ?_
  refine qg (run_lssI (b := false) _ _ rfl Qv Qv (decide_eq_false (by omega)) _) ?_
  refine qa ?_
  iterate 2 refine q_skip ?_
  refine qg (run_pickF _ _ _ rfl Qv Qv _) ?_
  refine l_nx ?_
  refine q_no rfl ?_
  refine c_exit (x_out ?_)
  refine c_rs ?_
  repeat first | refine qa ?_ | refine l_nx ?_
  exact c_ret (ret_of ((defL _ _).trans hd) (res_t rfl Qv) ⟨rfl, H.bel⟩)
end Go.Proofs.YtdhblehhgpdpdaaGreat
