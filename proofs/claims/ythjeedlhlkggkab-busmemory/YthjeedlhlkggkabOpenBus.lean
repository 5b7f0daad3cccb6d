/- Buses, loads and deeds among a statement's arguments, opened. -/
import Derived.Test.YthjeedlhlkggkabNear9
import Derived.Test.YthjeedlhlkggkabNear11
import Derived.Deep.Slices
import Derived.Deep.Strs
namespace Go.Proofs.Ythjeedlhlkggkab
open Go.ChangeShapes Go.WideShapes Go.ChangeAt Go.RowKit Go.Joins

instance : Inhabited Lp := ⟨⟨⟨0, 0, 0, 0, []⟩, none, 0⟩⟩
instance : Inhabited Ld := ⟨⟨0, 0, 0, [], none, 0⟩⟩
theorem cellsIntU : Try.prog.cellsOf 3 = 1 := by kernel_rfl
theorem cellsBytesU : Try.prog.cellsOf 30 = 1 := by kernel_rfl
theorem cellsQueueU : Try.prog.cellsOf 23 = 1 := by kernel_rfl
/-- Bytes as a list. -/
theorem bytes_list {w : World} {ao : Option Addr} {len cap : Nat} {g : Nat → Nat} (h : ArgB w ao len cap g) : ∃ ds : List Nat, ds.length = len ∧ Sr w ao ds.length cap (bF (gF ds)) ∧ ds.length ≤ cap ∧ (∀ x, x ∈ ds → x < 256) ∧ ds.length ≤ 140737488351232 := by
  have el : ((List.range len).map g).length = len := by simp
  refine ⟨(List.range len).map g, el, ?_, by rw [el]; exact h.2.2.2, fun x hx => ?_, by rw [el]; exact h.2.1⟩
  · rw [el]
    refine h.1.congr (fun i hi => ?_)
    unfold bF gF
    rw [List.getD_eq_getElem?_getD, List.getElem?_map, List.getElem?_range hi]
    rfl
  · obtain ⟨i, _, rfl⟩ := List.mem_map.1 hx
    exact h.2.2.1 i
theorem weightsAll_mem {H : Type} {e : TypeId} {l : List (DataW H)} {d : DataW H} (hd : d ∈ l) : ∀ n, n ∈ d.weights Try.prog e → n ∈ DataW.weightsAll Try.prog e l := by
  induction l with
  | nil => cases hd
  | cons x l ih =>
    intro n hn
    unfold DataW.weightsAll
    rcases List.mem_cons.1 hd with rfl | hd
    · exact List.mem_append.2 (Or.inl hn)
    · exact List.mem_append.2 (Or.inr (ih hd n hn))
section
variable {H : Type} {enc : TypeId × Value → H} {w : World} {base : Nat} {held : Bool}
/-- Four numbers and bytes. -/
theorem open_five {t : TypeId} {f0 f1 f2 f3 f4 : Field} (ht : Try.prog.underlying t = some (.struct #[f0, f1, f2, f3, f4])) (e0 : f0.type = 3 ∧ f0.offset = 0) (e1 : f1.type = 3 ∧ f1.offset = 1) (e2 : f2.type = 3 ∧ f2.offset = 2) (e3 : f3.type = 3 ∧ f3.offset = 3) (e4 : f4.type = 30 ∧ f4.offset = 4) (hc : Try.prog.cellsOf t = 5)
    {fuel : Nat} {cs : List Value} {x : DataW H × List MemPlace} (h : DataW.trod enc Try.prog w base (fun _ => true) held fuel t cs = some x) (hsz : ∀ n ∈ x.1.weights Try.prog t, n ≤ reachBytes) :
    ∃ c : Lp, cs = lpC c ∧ PcOK c.p ∧ PRd w c := by
  obtain ⟨xs, n, _, ex, hl, hlen, hf⟩ := DataW.trod_struct ht h
  rw [hc] at hl
  match cs, hl with
  | [c0, c1, c2, c3, c4], _ =>
    match xs, hlen with
    | [y0, y1, y2, y3, y4], _ =>
      have g0 := hf 0 f0 rfl; have g1 := hf 1 f1 rfl; have g2 := hf 2 f2 rfl; have g3 := hf 3 f3 rfl; have g4 := hf 4 f4 rfl
      rw [e0.1, e0.2, cellsIntU] at g0
      rw [e1.1, e1.2, cellsIntU] at g1
      rw [e2.1, e2.2, cellsIntU] at g2
      rw [e3.1, e3.2, cellsIntU] at g3
      rw [e4.1, e4.2, cellsBytesU] at g4
      obtain ⟨a0, q0, _, w0⟩ := DataW.trod_int Try.underlying3 (show DataW.trod enc Try.prog w base (fun _ => true) held n 3 [c0] = some y0 from g0)
      obtain ⟨a1, q1, _, w1⟩ := DataW.trod_int Try.underlying3 (show DataW.trod enc Try.prog w base (fun _ => true) held n 3 [c1] = some y1 from g1)
      obtain ⟨a2, q2, _, w2⟩ := DataW.trod_int Try.underlying3 (show DataW.trod enc Try.prog w base (fun _ => true) held n 3 [c2] = some y2 from g2)
      obtain ⟨a3, q3, _, w3⟩ := DataW.trod_int Try.underlying3 (show DataW.trod enc Try.prog w base (fun _ => true) held n 3 [c3] = some y3 from g3)
      simp at q0 q1 q2 q3
      subst q0 q1 q2 q3
      obtain ⟨ao, len, cap, g, rfl, ha⟩ := open_bytes (show DataW.trod enc Try.prog w base (fun _ => true) held n 30 [c4] = some y4 from g4) (fun k hk => hsz k (by
        rw [ex]
        simp only [DataW.weights, ht, List.map, DataW.weightsEach, e0.1, e1.1, e2.1, e3.1, e4.1]
        simp only [List.mem_append]
        exact Or.inr (Or.inr (Or.inr (Or.inr (Or.inl hk))))))
      obtain ⟨ds, rfl, hs, hcap, h256, hmax⟩ := bytes_list ha
      exact ⟨⟨⟨a0, a1, a2, a3, ds⟩, ao, cap⟩, rfl, ⟨R64.of_wf w0, R64.of_wf w1, R64.of_wf w2, R64.of_wf w3, h256, hmax⟩, hs, hcap⟩
/-- A row of these. -/
theorem open_fives {T t : TypeId} {f0 f1 f2 f3 f4 : Field} (hT : Try.prog.underlying T = some (.slice t)) (ht : Try.prog.underlying t = some (.struct #[f0, f1, f2, f3, f4])) (e0 : f0.type = 3 ∧ f0.offset = 0) (e1 : f1.type = 3 ∧ f1.offset = 1) (e2 : f2.type = 3 ∧ f2.offset = 2) (e3 : f3.type = 3 ∧ f3.offset = 3) (e4 : f4.type = 30 ∧ f4.offset = 4) (hc : Try.prog.cellsOf t = 5) (hby : Try.prog.bytesOf t = 56)
    {fuel : Nat} {v : Value} {x : DataW H × List MemPlace} (h : DataW.trod enc Try.prog w base (fun _ => true) held fuel T [v] = some x) (hsz : ∀ n ∈ x.1.weights Try.prog T, n ≤ reachBytes) :
    ∃ (ao : Option Addr) (cap : Nat) (L : List Lp), v = .slice ao L.length cap ∧ BRd w ao cap L ∧ (∀ c, c ∈ L → PcOK c.p) ∧ L.length ≤ 2513169434843 := by
  rcases Go.Deep.open_slice hT h with ⟨hcs, _⟩ | ⟨a, l, c, m, n, D, Pl, hcs, _, hl, hm, hmm, ex, hx⟩
  · simp at hcs
    exact ⟨none, 0, [], hcs, BRd.nil _ _ _, fun _ h => absurd h (by simp), by show 0 ≤ _; omega⟩
  · simp at hcs
    simp only [if_true] at hmm
    subst hmm
    have hw : ∀ i, i < l → ∀ k ∈ (D i).weights Try.prog t, k ≤ reachBytes := fun i hi k hk => hsz k (by
      rw [ex]
      simp only [DataW.weights, hT]
      refine List.mem_cons_of_mem _ (List.mem_append.2 (Or.inl (weightsAll_mem (List.mem_map.2 ⟨i, List.mem_range.2 hi, rfl⟩) k hk))))
    have hb : m * 56 ≤ reachBytes := hsz _ (by
      rw [ex]
      simp only [DataW.weights, hT, hby]
      refine List.mem_cons.2 (Or.inl ?_)
      rw [List.length_map, List.length_map, List.length_range, List.length_range]
      congr 1
      omega)
    obtain ⟨F, hF⟩ := Go.Deep.choose_lt (α := Lp) (n := l) (p := fun i c => w.cells? base (a.add (i * 5)) 5 = some (lpC c) ∧ PcOK c.p ∧ PRd w c) (fun i hi => by
      obtain ⟨cs', h1, h2⟩ := hx i (by omega)
      rw [hc] at h1
      obtain ⟨cc, e, h3, h4⟩ := open_five ht e0 e1 e2 e3 e4 hc h2 (hw i hi)
      exact ⟨cc, by rw [h1, e], h3, h4⟩)
    have el : ((List.range l).map F).length = l := by simp
    have hat : ∀ i c, ((List.range l).map F)[i]? = some c → i < l ∧ c = F i := fun i c hi => by
      have hlt : i < l := by have := (List.getElem?_eq_some_iff.1 hi).1; rw [el] at this; exact this
      rw [List.getElem?_map, List.getElem?_range hlt] at hi
      exact ⟨hlt, (Option.some.inj hi).symm⟩
    refine ⟨some a, m, (List.range l).map F, by rw [el]; exact hcs, ⟨fun hl0 => ?_, by rw [el]; exact hl, fun c hc => ?_⟩, fun c hc => ?_, by rw [el]; unfold reachBytes at hb; omega⟩
    · rw [el] at hl0
      obtain ⟨b, o, spot⟩ := a
      have hs : spot = none := by
        obtain ⟨_, hlen, hcc⟩ := World.cells?_some (hF 0 hl0).1
        have h0 : w.cell? (((⟨b, o, spot⟩ : Addr).add (0 * 5)).add 0) = some (.int .i64 (F 0).p.fr) := hcc 0 (by omega)
        simpa [Addr.add] using World.cell?_spot h0
      subst hs
      refine ⟨b, o, rfl, fun i c hi => ?_⟩
      obtain ⟨hlt, rfl⟩ := hat i c hi
      obtain ⟨_, hlen, hcc⟩ := World.cells?_some (hF i hlt).1
      refine PcAt.of (fun k hk u hu => ?_)
      have := hcc k hk
      rw [Addr.add_lit, Addr.add_lit, hu] at this
      exact this
    · obtain ⟨i, hi⟩ := List.getElem?_of_mem hc
      obtain ⟨hlt, rfl⟩ := hat i c hi
      exact (hF i hlt).2.2
    · obtain ⟨i, hi⟩ := List.getElem?_of_mem hc
      obtain ⟨hlt, rfl⟩ := hat i c hi
      exact (hF i hlt).2.1
theorem cellsParcelU : Try.prog.cellsOf 32 = 5 := by kernel_rfl
theorem bytesParcelU : Try.prog.bytesOf 32 = 56 := by kernel_rfl
theorem cellsBusU : Try.prog.cellsOf 25 = 3 := by kernel_rfl
theorem array_threeU {α : Type} {cs : Array α} (h : cs.size = 3) : ∃ c0 c1 c2, cs = #[c0, c1, c2] := by
  obtain ⟨l⟩ := cs
  match l, h with
  | [c0, c1, c2], _ => exact ⟨c0, c1, c2, rfl⟩
set_option maxRecDepth 100000 in
theorem open_busArg {r : Reach} {b0 : Nat} {v : Value} {d : DataW H} {p : List MemPlace} (hv : Value.okWide Try.prog w r b0 25 v) (h : DataW.Trod enc Try.prog w base (fun _ => true) held 25 v d p) (hsz : ∀ n ∈ d.weights Try.prog 25, n ≤ reachBytes) :
    ∃ (b : Bs) (ao : Option Addr) (cap : Nat) (L : List Lp), v = busV b.now b.ser (.slice ao L.length cap) ∧ BsOK b ∧ These L b.q ∧ BRd w ao cap L := by
  obtain ⟨cs, rfl, hsz2⟩ := okWide_struct Try.underlying25 hv
  obtain ⟨c0, c1, c2, rfl⟩ := array_threeU (hsz2.trans cellsBusU)
  obtain ⟨fuel, hf⟩ := h
  have hf' : DataW.trod enc Try.prog w base (fun _ => true) held fuel 25 [c0, c1, c2] = some (d, p) := hf
  obtain ⟨y0, y1, y2, m, e, _, h0, h1, h2⟩ := Go.Deep.trod_struct3 Try.underlying25 hf'
  have k0 : DataW.trod enc Try.prog w base (fun _ => true) held m 3 [c0] = some y0 := by rw [cellsIntU] at h0; exact h0
  have k1 : DataW.trod enc Try.prog w base (fun _ => true) held m 3 [c1] = some y1 := by rw [cellsIntU] at h1; exact h1
  have k2 : DataW.trod enc Try.prog w base (fun _ => true) held m 23 [c2] = some y2 := by rw [cellsQueueU] at h2; exact h2
  obtain ⟨N, e0, _, wN⟩ := DataW.trod_int Try.underlying3 k0
  obtain ⟨S, e1, _, wS⟩ := DataW.trod_int Try.underlying3 k1
  simp at e0 e1
  subst e0 e1
  simp only [Prod.mk.injEq] at e
  obtain ⟨ao, cap, L, rfl, hr, hok, hlen⟩ := open_fives Try.underlying23 Try.underlying32 ⟨rfl, rfl⟩ ⟨rfl, rfl⟩ ⟨rfl, rfl⟩ ⟨rfl, rfl⟩ ⟨rfl, rfl⟩ cellsParcelU bytesParcelU k2 (fun n hn => hsz n (by
    rw [e.1]
    simp only [DataW.weights, Try.underlying25, List.map, DataW.weightsEach]
    simp only [List.mem_append]
    exact Or.inr (Or.inr (Or.inl hn))))
  refine ⟨⟨N, S, L.map Lp.p⟩, ao, cap, L, rfl, ⟨R64.of_wf wN, R64.of_wf wS, fun q hq => ?_, by dsimp only; rw [List.length_map]; exact hlen⟩, rfl, hr⟩
  obtain ⟨c, hc, rfl⟩ := List.mem_map.1 hq
  exact hok c hc
set_option maxRecDepth 100000 in
theorem open_blistArg {r : Reach} {b0 : Nat} {v : Value} {d : DataW H} {p : List MemPlace} (hv : Value.okWide Try.prog w r b0 30 v) (h : DataW.Trod enc Try.prog w base (fun _ => true) held 30 v d p) (hsz : ∀ n ∈ d.weights Try.prog 30, n ≤ reachBytes) :
    ∃ (ao : Option Addr) (cap : Nat) (ds : List Nat), v = .slice ao ds.length cap ∧ Sr w ao ds.length cap (bF (gF ds)) ∧ ds.length ≤ cap ∧ (∀ x, x ∈ ds → x < 256) ∧ ds.length ≤ 140737488351232 := by
  obtain ⟨ao, len, cap, g, rfl, ha⟩ := open_bytesArg hv h hsz
  obtain ⟨ds, rfl, hs, hcap, h256, hmax⟩ := bytes_list ha
  exact ⟨ao, cap, ds, rfl, hs, hcap, h256, hmax⟩
theorem cellsLoadU : Try.prog.cellsOf 48 = 4 := by kernel_rfl
theorem open_four4 {t : TypeId} {f0 f1 f2 f3 : Field} (ht : Try.prog.underlying t = some (.struct #[f0, f1, f2, f3])) (e0 : f0.type = 3 ∧ f0.offset = 0) (e1 : f1.type = 3 ∧ f1.offset = 1) (e2 : f2.type = 3 ∧ f2.offset = 2) (e3 : f3.type = 30 ∧ f3.offset = 3) (hc : Try.prog.cellsOf t = 4)
    {fuel : Nat} {cs : List Value} {x : DataW H × List MemPlace} (h : DataW.trod enc Try.prog w base (fun _ => true) held fuel t cs = some x) (hsz : ∀ n ∈ x.1.weights Try.prog t, n ≤ reachBytes) :
    ∃ l : Ld, cs = [.int .i64 l.fr, .int .i64 l.to, .int .i64 l.dl, .slice l.ao l.ds.length l.cap] ∧ LdOK l ∧ Sr w l.ao l.ds.length l.cap (bF (gF l.ds)) ∧ l.ds.length ≤ l.cap := by
  obtain ⟨xs, n, _, ex, hl, hlen, hf⟩ := DataW.trod_struct ht h
  rw [hc] at hl
  match cs, hl with
  | [c0, c1, c2, c3], _ =>
    match xs, hlen with
    | [y0, y1, y2, y3], _ =>
      have g0 := hf 0 f0 rfl; have g1 := hf 1 f1 rfl; have g2 := hf 2 f2 rfl; have g3 := hf 3 f3 rfl
      rw [e0.1, e0.2, cellsIntU] at g0
      rw [e1.1, e1.2, cellsIntU] at g1
      rw [e2.1, e2.2, cellsIntU] at g2
      rw [e3.1, e3.2, cellsBytesU] at g3
      obtain ⟨a0, q0, _, w0⟩ := DataW.trod_int Try.underlying3 (show DataW.trod enc Try.prog w base (fun _ => true) held n 3 [c0] = some y0 from g0)
      obtain ⟨a1, q1, _, w1⟩ := DataW.trod_int Try.underlying3 (show DataW.trod enc Try.prog w base (fun _ => true) held n 3 [c1] = some y1 from g1)
      obtain ⟨a2, q2, _, w2⟩ := DataW.trod_int Try.underlying3 (show DataW.trod enc Try.prog w base (fun _ => true) held n 3 [c2] = some y2 from g2)
      simp at q0 q1 q2
      subst q0 q1 q2
      obtain ⟨ao, len, cap, g, rfl, ha⟩ := open_bytes (show DataW.trod enc Try.prog w base (fun _ => true) held n 30 [c3] = some y3 from g3) (fun k hk => hsz k (by
        rw [ex]
        simp only [DataW.weights, ht, List.map, DataW.weightsEach, e0.1, e1.1, e2.1, e3.1]
        simp only [List.mem_append]
        exact Or.inr (Or.inr (Or.inr (Or.inl hk)))))
      obtain ⟨ds, rfl, hs, hcap, h256, hmax⟩ := bytes_list ha
      exact ⟨⟨a0, a1, a2, ds, ao, cap⟩, rfl, ⟨R64.of_wf w0, R64.of_wf w1, R64.of_wf w2, h256, hmax⟩, hs, hcap⟩
set_option maxRecDepth 100000 in
theorem open_loadsArg {r : Reach} {b0 : Nat} {v : Value} {d : DataW H} {p : List MemPlace} (hv : Value.okWide Try.prog w r b0 22 v) (h : DataW.Trod enc Try.prog w base (fun _ => true) held 22 v d p) (hsz : ∀ n ∈ d.weights Try.prog 22, n ≤ reachBytes) :
    ∃ (ao : Option Addr) (cap : Nat) (D : List Ld), v = .slice ao D.length cap ∧ (∀ l, l ∈ D → LdOK l) ∧ LRd w ao D ∧ D.length ≤ 9223372036854775807 := by
  obtain ⟨ao, len, cap, rfl⟩ := okWide_slice Try.underlying22 hv
  obtain ⟨fuel, hf⟩ := h
  have hf' : DataW.trod enc Try.prog w base (fun _ => true) held fuel 22 [.slice ao len cap] = some (d, p) := hf
  rcases Go.Deep.open_slice Try.underlying22 hf' with ⟨hcs, _⟩ | ⟨a, l, c, m, n, D, Pl, hcs, _, hl, hm, hmm, ex, hx⟩
  · simp at hcs
    obtain ⟨rfl, rfl, rfl⟩ := hcs
    exact ⟨none, 0, [], rfl, fun _ h => absurd h (by simp), ⟨fun h => absurd h (by simp), fun _ h => absurd h (by simp)⟩, by decide⟩
  · simp at hcs
    obtain ⟨rfl, rfl, rfl⟩ := hcs
    simp only [if_true] at hmm
    subst hmm
    simp only [Prod.mk.injEq] at ex
    have hw : ∀ i, i < len → ∀ k ∈ (D i).weights Try.prog 48, k ≤ reachBytes := fun i hi k hk => hsz k (by
      rw [ex.1]
      simp only [DataW.weights, Try.underlying22]
      exact List.mem_cons_of_mem _ (List.mem_append.2 (Or.inl (weightsAll_mem (List.mem_map.2 ⟨i, List.mem_range.2 hi, rfl⟩) k hk))))
    obtain ⟨F, hF⟩ := Go.Deep.choose_lt (α := Ld) (n := len) (p := fun i l => w.cells? base (a.add (i * 4)) 4 = some [.int .i64 l.fr, .int .i64 l.to, .int .i64 l.dl, .slice l.ao l.ds.length l.cap] ∧ LdOK l ∧ Sr w l.ao l.ds.length l.cap (bF (gF l.ds)) ∧ l.ds.length ≤ l.cap) (fun i hi => by
      obtain ⟨cs', h1, h2⟩ := hx i (by omega)
      rw [cellsLoadU] at h1
      obtain ⟨ll, e, h3, h4⟩ := open_four4 Try.underlying48 ⟨rfl, rfl⟩ ⟨rfl, rfl⟩ ⟨rfl, rfl⟩ ⟨rfl, rfl⟩ cellsLoadU h2 (hw i hi)
      exact ⟨ll, by rw [h1, e], h3, h4⟩)
    have el : ((List.range len).map F).length = len := by simp
    have hat : ∀ i c, ((List.range len).map F)[i]? = some c → i < len ∧ c = F i := fun i c hi => by
      have hlt : i < len := by have := (List.getElem?_eq_some_iff.1 hi).1; rw [el] at this; exact this
      rw [List.getElem?_map, List.getElem?_range hlt] at hi
      exact ⟨hlt, (Option.some.inj hi).symm⟩
    refine ⟨some a, m, (List.range len).map F, by rw [el], fun c hc => ?_, ⟨fun hl0 => ?_, fun c hc => ?_⟩, by rw [el]; unfold maxLen at hm; omega⟩
    · obtain ⟨i, hi⟩ := List.getElem?_of_mem hc
      obtain ⟨hlt, rfl⟩ := hat i c hi
      exact (hF i hlt).2.1
    · rw [el] at hl0
      obtain ⟨b, o, spot⟩ := a
      have hs : spot = none := by
        obtain ⟨_, hlen, hcc⟩ := World.cells?_some (hF 0 hl0).1
        have h0 : w.cell? (((⟨b, o, spot⟩ : Addr).add (0 * 4)).add 0) = some (.int .i64 (F 0).fr) := hcc 0 (by omega)
        simpa [Addr.add] using World.cell?_spot h0
      subst hs
      refine ⟨b, o, rfl, fun i c hi => ?_⟩
      obtain ⟨hlt, rfl⟩ := hat i c hi
      obtain ⟨_, hlen, hcc⟩ := World.cells?_some (hF i hlt).1
      have hh : ∀ k, k < 4 → w.cell? ⟨b, o + i * 4 + k, none⟩ = [Value.int .i64 (F i).fr, .int .i64 (F i).to, .int .i64 (F i).dl, .slice (F i).ao (F i).ds.length (F i).cap][k]? := fun k hk => by
        have := hcc k hk
        rw [Addr.add_lit, Addr.add_lit] at this
        exact this
      exact ⟨hh 0 (by omega), hh 1 (by omega), hh 2 (by omega), hh 3 (by omega)⟩
    · obtain ⟨i, hi⟩ := List.getElem?_of_mem hc
      obtain ⟨hlt, rfl⟩ := hat i c hi
      exact (hF i hlt).2.2
end

end Go.Proofs.Ythjeedlhlkggkab
