/- What may be written over: a bus of one's own. -/
import Derived.Test.YthjeedlhlkggkabNear11
import Derived.Test.YthjeedlhlkggkabNear5
import Derived.Laws.IdiomCopy
namespace Go.Proofs.Ythjeedlhlkggkab
open Go.RowKit

/-- Room in a block between two others. -/
def Rm (w : World) (U T : Nat) (t : TypeId) (size : Nat) (ao : Option Addr) (cap : Nat) : Prop := cap = 0 ∨ ∃ b o cur, ao = some ⟨b, o, none⟩ ∧ U ≤ b ∧ b < T ∧ w.heap[b]? = some (.cells cur t (0, 0)) ∧ o + cap * size ≤ cur.size
/-- A queue, and where each parcel's bytes lie. -/
def Qm (w : World) (U T : Nat) (ao : Option Addr) (n cap : Nat) (A : Nat → Option Addr) (m c : Nat → Nat) : Prop := n = 0 ∨ ∃ b o cur, ao = some ⟨b, o, none⟩ ∧ U ≤ b ∧ b < T ∧ w.heap[b]? = some (.cells cur 32 (0, 0)) ∧ o + cap * 5 ≤ cur.size ∧ ∀ j, j < n → cur[o + j * 5 + 4]? = some (.slice (A j) (m j) (c j))
def SmB (U T : Nat) (w : World) (ao : Option Addr) (n cap : Nat) (A : Nat → Option Addr) (m c : Nat → Nat) : Prop :=
  n ≤ cap ∧ Rm w U T 32 5 ao cap ∧ Qm w U T ao n cap A m c ∧ ∀ j, j < n → m j ≤ c j ∧ m j ≤ 140737488351232 ∧ Rm w U T 5 1 (A j) (c j)
section
variable {w w' : World} {U T : Nat} {t : TypeId} {size : Nat} {ao : Option Addr} {n cap : Nat} {A : Nat → Option Addr} {m c : Nat → Nat}
theorem Rm.same (h : Rm w U T t size ao cap) (e : ∀ b cur, U ≤ b → b < T → w.heap[b]? = some (.cells cur t (0, 0)) → ∃ cur', w'.heap[b]? = some (.cells cur' t (0, 0)) ∧ cur'.size = cur.size) : Rm w' U T t size ao cap := by
  rcases h with h | ⟨b, o, cur, ea, h1, h2, h3, h4⟩
  · exact Or.inl h
  · obtain ⟨cur', h5, h6⟩ := e b cur h1 h2 h3
    exact Or.inr ⟨b, o, cur', ea, h1, h2, h5, by omega⟩
theorem SmB.below (h : SmB U T w ao n cap A m c) (k : Below w.heap.size w w') : SmB U T w' ao n cap A m c := by
  have e : ∀ t b cur, U ≤ b → b < T → w.heap[b]? = some (.cells cur t (0, 0)) → ∃ cur', w'.heap[b]? = some (.cells cur' t (0, 0)) ∧ cur'.size = cur.size := fun t b cur _ _ hb => ⟨cur, (k.block b (lt_of_block hb)).trans hb, rfl⟩
  refine ⟨h.1, h.2.1.same (e _), ?_, fun j hj => ⟨(h.2.2.2 j hj).1, (h.2.2.2 j hj).2.1, (h.2.2.2 j hj).2.2.same (e _)⟩⟩
  rcases h.2.2.1 with h0 | ⟨b, o, cur, ea, h1, h2, h3, h4, h5⟩
  · exact Or.inl h0
  · exact Or.inr ⟨b, o, cur, ea, h1, h2, (k.block b (lt_of_block h3)).trans h3, h4, h5⟩
theorem SmB.kept {z : Nat} (h : SmB U T w ao n cap A m c) (k : Kept z w w') (hz : z < U ∨ T ≤ z) : SmB U T w' ao n cap A m c := by
  have e : ∀ t b cur, U ≤ b → b < T → w.heap[b]? = some (.cells cur t (0, 0)) → ∃ cur', w'.heap[b]? = some (.cells cur' t (0, 0)) ∧ cur'.size = cur.size := fun t b cur h1 h2 hb => ⟨cur, (k.block b (lt_of_block hb) (by omega)).trans hb, rfl⟩
  refine ⟨h.1, h.2.1.same (e _), ?_, fun j hj => ⟨(h.2.2.2 j hj).1, (h.2.2.2 j hj).2.1, (h.2.2.2 j hj).2.2.same (e _)⟩⟩
  rcases h.2.2.1 with h0 | ⟨b, o, cur, ea, h1, h2, h3, h4, h5⟩
  · exact Or.inl h0
  · exact Or.inr ⟨b, o, cur, ea, h1, h2, (k.block b (lt_of_block h3) (by omega)).trans h3, h4, h5⟩
/-- A byte written. -/
theorem SmB.byte {z x : Nat} {cz : Array Value} (v : Value) (h : SmB U T w ao n cap A m c) (hz : w.heap[z]? = some (.cells cz 5 (0, 0))) : SmB U T (w.setCell ⟨z, x, none⟩ v) ao n cap A m c := by
  have hs := heap_setCell_same w z x _ _ v hz
  have e : ∀ t b cur, U ≤ b → b < T → w.heap[b]? = some (.cells cur t (0, 0)) → ∃ cur', (w.setCell ⟨z, x, none⟩ v).heap[b]? = some (.cells cur' t (0, 0)) ∧ cur'.size = cur.size := fun t b cur _ _ hb => by
    by_cases ez : b = z
    · subst ez
      rw [hb] at hz
      cases hz
      exact ⟨_, hs, by simp⟩
    · exact ⟨cur, (Below.heap_setCell w ⟨z, x, none⟩ v b ez).trans hb, rfl⟩
  refine ⟨h.1, h.2.1.same (e _), ?_, fun j hj => ⟨(h.2.2.2 j hj).1, (h.2.2.2 j hj).2.1, (h.2.2.2 j hj).2.2.same (e _)⟩⟩
  rcases h.2.2.1 with h0 | ⟨b, o, cur, ea, h1, h2, h3, h4, h5⟩
  · exact Or.inl h0
  · refine Or.inr ⟨b, o, cur, ea, h1, h2, (Below.heap_setCell w ⟨z, x, none⟩ v b (fun ez => ?_)).trans h3, h4, h5⟩
    have ez' : b = z := ez
    rw [ez', hz] at h3
    cases h3
/-- A parcel's number written. -/
theorem SmB.num {b o i k : Nat} (v : Value) (h : SmB U T w (some ⟨b, o, none⟩) n cap A m c) (hi : i < n) (hk : k < 4) : SmB U T (w.setCell ⟨b, o + i * 5 + k, none⟩ v) (some ⟨b, o, none⟩) n cap A m c := by
  rcases h.2.2.1 with h0 | ⟨b', o', cur, ea, h1, h2, h3, h4, h5⟩
  · omega
  · cases ea
    have hs := heap_setCell_same w b (o + i * 5 + k) _ _ v h3
    have e : ∀ t b' cur', U ≤ b' → b' < T → w.heap[b']? = some (.cells cur' t (0, 0)) → ∃ cur2, (w.setCell ⟨b, o + i * 5 + k, none⟩ v).heap[b']? = some (.cells cur2 t (0, 0)) ∧ cur2.size = cur'.size := fun t b' cur' _ _ hb => by
      by_cases ez : b' = b
      · subst ez
        rw [hb] at h3
        cases h3
        exact ⟨_, hs, by simp⟩
      · exact ⟨cur', (Below.heap_setCell w ⟨b, o + i * 5 + k, none⟩ v b' ez).trans hb, rfl⟩
    refine ⟨h.1, h.2.1.same (e _), Or.inr ⟨b, o, _, rfl, h1, h2, hs, by simp; exact h4, fun j hj => ?_⟩, fun j hj => ⟨(h.2.2.2 j hj).1, (h.2.2.2 j hj).2.1, (h.2.2.2 j hj).2.2.same (e _)⟩⟩
    rw [Array.getElem?_setIfInBounds_ne (by omega)]
    exact h5 j hj
theorem SmB.cell (h : SmB U T w ao n cap A m c) (hn : 0 < n) : ∃ b o, ao = some ⟨b, o, none⟩ ∧ U ≤ b ∧ b < T ∧ ∀ j, j < n → w.cell? ⟨b, o + j * 5 + 4, none⟩ = some (.slice (A j) (m j) (c j)) ∧ (∀ k, k < 5 → ∃ u, w.cell? ⟨b, o + j * 5 + k, none⟩ = some u) ∧ ∀ x, w.frozen? ⟨b, x, none⟩ = false := by
  rcases h.2.2.1 with h0 | ⟨b, o, cur, ea, h1, h2, h3, h4, h5⟩
  · omega
  · refine ⟨b, o, ea, h1, h2, fun j hj => ⟨?_, fun k hk => ?_, fun x => by simp [World.frozen?, h3]⟩⟩
    · unfold World.cell?; rw [h3]; exact h5 j hj
    · have hlt : o + j * 5 + k < cur.size := by have := h.1; omega
      exact ⟨cur[o + j * 5 + k], by unfold World.cell?; rw [h3]; exact Array.getElem?_eq_getElem hlt⟩
theorem SmB.bytes (h : SmB U T w ao n cap A m c) {j : Nat} (hj : j < n) (hm : 0 < c j) : ∃ b o cur, A j = some ⟨b, o, none⟩ ∧ U ≤ b ∧ b < T ∧ w.heap[b]? = some (.cells cur 5 (0, 0)) ∧ o + c j ≤ cur.size := by
  rcases (h.2.2.2 j hj).2.2 with h0 | ⟨b, o, cur, ea, h1, h2, h3, h4⟩
  · omega
  · exact ⟨b, o, cur, ea, h1, h2, h3, by omega⟩
end
/-- What comes out of a call may be written over. -/
theorem BNew.smear {w : World} {U cap : Nat} {ao : Option Addr} {L : List Lp} (h : BNew U w ao cap L) (hL : ∀ d, d ∈ L → d.p.ds.length ≤ 140737488351232) :
    SmB U w.heap.size w ao L.length cap (fun j => (L.getD j ⟨⟨0, 0, 0, 0, []⟩, none, 0⟩).ao) (fun j => (L.getD j ⟨⟨0, 0, 0, 0, []⟩, none, 0⟩).p.ds.length) (fun j => (L.getD j ⟨⟨0, 0, 0, 0, []⟩, none, 0⟩).cap) := by
  have rm : ∀ {t size ao cap}, Room w U t size ao cap → Rm w U w.heap.size t size ao cap := fun {t size ao cap} hr => by
    rcases hr with hr | ⟨b, o, cur, e, hb, hg, hc⟩
    · exact Or.inl hr
    · exact Or.inr ⟨b, o, cur, e, hb, lt_of_block hg, hg, hc⟩
  have gd : ∀ j, j < L.length → ∃ d, L[j]? = some d ∧ L.getD j ⟨⟨0, 0, 0, 0, []⟩, none, 0⟩ = d ∧ d ∈ L := fun j hj => ⟨L[j], List.getElem?_eq_getElem hj, by rw [List.getD_eq_getElem?_getD, List.getElem?_eq_getElem hj]; rfl, List.getElem_mem hj⟩
  refine ⟨h.1.2.1, rm h.2.1, ?_, fun j hj => ?_⟩
  · rcases Nat.eq_zero_or_pos L.length with h0 | h0
    · exact Or.inl h0
    · obtain ⟨b, o, ea, hq⟩ := h.1.1 h0
      rcases h.2.1 with hr | ⟨b', o', cur, e, hb, hg, hc⟩
      · have := h.1.2.1; omega
      · rw [ea] at e
        cases e
        refine Or.inr ⟨b, o, cur, ea, hb, lt_of_block hg, hg, hc, fun j hj => ?_⟩
        obtain ⟨d, e1, e2, _⟩ := gd j hj
        have := (hq j d e1).2.2.2.2
        unfold World.cell? at this
        rw [hg] at this
        dsimp only
        rw [e2]
        exact this
  · obtain ⟨d, e1, e2, hd⟩ := gd j hj
    dsimp only
    rw [e2]
    exact ⟨(h.1.2.2 d hd).2, hL d hd, rm (h.2.2 d hd)⟩

/-- Two bytes appended to a parcel's. -/
theorem wpList_smB (w : World) {ops : Array Oper} {rest : List Oper} {o : Oper} {a : Act} {Q : Exit → Act → World → Prop} (hgd : o.guard = none) (s x : Operand)
    (ho : o.op = .call { callee := .builtin .append, args := #[s, x], argTypes := #[30, 30] }) {U T : Nat} {ao : Option Addr} {n cap : Nat} {A : Nat → Option Addr} {m c : Nat → Nat} (h : SmB U T w ao n cap A m c) {j : Nat} (hj : j < n) (hU : U ≤ w.heap.size)
    (hs : a.eval s = .slice (A j) (m j) (c j)) (g : Nat) (hx : a.eval x = .slice (some ⟨g, 0, none⟩) 2 2) (c0 : w.cell? ⟨g, 0, none⟩ = some (.int .u8 55)) (c1 : w.cell? ⟨g, 1, none⟩ = some (.int .u8 55))
    (hk : ∀ r off c' u cz w', w'.heap[r]? = some (.cells cz 5 (0, 0)) → w'.cell? ⟨r, off, none⟩ = some u → U ≤ r → (r < T ∨ w.heap.size ≤ r) → SmB U T w' ao n cap A m c → KI U T w w' → wpList Try.prog ops Q rest (a.put o.dst (.slice (some ⟨r, off, none⟩) (m j + 2) c')) w') : wpList Try.prog ops Q (o :: rest) a w := by
  obtain ⟨i0, hi, hz0, hz1, hz2⟩ := info_parts infoByte
  obtain ⟨h1, h2, h3⟩ := h.2.2.2 j hj
  have hnews : ∀ (i : Nat) (u : Value), [Value.int .u8 55, .int .u8 55][i]? = some u → w.cell? ((⟨g, 0, none⟩ : Addr).add i) = some u := by
    intro i u hu
    rw [Addr.add_lit, Nat.zero_add]
    match i, hu with
    | 0, hu => cases hu; exact c0
    | 1, hu => cases hu; exact c1
    | i + 2, hu => simp at hu
  have hone : ∀ u ∈ [Value.int .u8 55, .int .u8 55], u.oneCell' = true := by intro u hu; simp at hu; subst hu; rfl
  by_cases hroom : m j + 2 ≤ c j
  · obtain ⟨b, off, cur, ea, b1, b2, hb, hsz⟩ := h.bytes hj (by omega)
    rw [ea] at hs
    have cell : ∀ y, y < c j → (w.cell? ⟨b, off + y, none⟩).isSome = true ∧ w.frozen? ⟨b, off + y, none⟩ = false := fun y hy => ⟨by unfold World.cell?; rw [hb]; simp; omega, by simp [World.frozen?, hb]⟩
    refine wpList_append_arg w hgd s x 30 ho 5 i0 (.int .u8 0) 1 1 Try.underlying30 hi hz0 hz1 hz2 rfl (by decide) b off (m j) (c j) ((cur.toList.drop off).take (m j)) hs (by simp; omega) (fun y u hu => ?_) ⟨g, 0, none⟩ 2 2 [.int .u8 55, .int .u8 55] hx rfl hnews hone (fun _ y hy => ?_) (by unfold maxLen; omega) (by omega) (fun _ => ?_) (fun hc => by omega)
    · rw [List.getElem?_take] at hu
      split at hu
      · rw [List.getElem?_drop, Array.getElem?_toList] at hu
        unfold World.cell?; rw [hb]; exact hu
      · cases hu
    · have hy2 : y < 2 := hy
      rw [Nat.mul_one, Nat.add_assoc]
      exact cell (m j + y) (by omega)
    · have e : w.setCells b (off + m j * 1) [.int .u8 55, .int .u8 55] = (w.setCell ⟨b, off + m j, none⟩ (.int .u8 55)).setCell ⟨b, off + m j + 1, none⟩ (.int .u8 55) := by rw [Nat.mul_one]; rfl
      rw [e]
      have s1 := heap_setCell_same w b (off + m j) _ _ (.int .u8 55) hb
      have s2 := heap_setCell_same _ b (off + m j + 1) _ _ (.int .u8 55) s1
      have m1 := h.byte (x := off + m j) (.int .u8 55) hb
      have m2 := m1.byte (x := off + m j + 1) (.int .u8 55) s1
      have kk := (kept_set w b (off + m j) (.int .u8 55)).trans (kept_set _ b (off + m j + 1) (.int .u8 55)) (Or.inl rfl)
      have hlt : off < ((cur.setIfInBounds (off + m j) (.int .u8 55)).setIfInBounds (off + m j + 1) (.int .u8 55)).size := by simp; omega
      exact hk b off (c j) _ _ _ s2 (by unfold World.cell?; rw [s2]; exact Array.getElem?_eq_getElem hlt) b1 (Or.inl b2) m2 (KI.of_kept kk b1 (Or.inl b2))
  · have hold : ∃ olds : List Value, olds.length = m j * 1 ∧ ∀ b, A j = some b → ∀ i u, olds[i]? = some u → w.cell? (b.add i) = some u := by
      rcases Nat.eq_zero_or_pos (m j) with h0 | h0
      · exact ⟨[], by rw [h0]; rfl, fun b _ i u hu => by simp at hu⟩
      · obtain ⟨b, off, cur, ea, b1, b2, hb, hsz⟩ := h.bytes hj (by omega)
        refine ⟨(cur.toList.drop off).take (m j), by simp; omega, fun b' eb i u hu => ?_⟩
        rw [ea] at eb; cases eb
        rw [Addr.add_lit]
        rw [List.getElem?_take] at hu
        split at hu
        · rw [List.getElem?_drop, Array.getElem?_toList] at hu
          unfold World.cell?; rw [hb]; exact hu
        · cases hu
    obtain ⟨olds, ho1, ho2⟩ := hold
    refine wpList_append_grows w hgd s x 30 ho 5 i0 (.int .u8 0) 1 1 Try.underlying30 hi hz0 hz1 hz2 rfl (by decide) (A j) (m j) (c j) olds hs (fun e => ?_) ho1 ho2 ⟨g, 0, none⟩ 2 2 [.int .u8 55, .int .u8 55] hx rfl hnews hone (by omega) (by unfold maxLen; omega) (by omega) ?_
    · rcases Nat.eq_zero_or_pos (c j) with h0 | h0
      · omega
      · obtain ⟨b, off, cur, ea, _⟩ := h.bytes hj h0
        rw [ea] at e; cases e
    · intro v' w2 ho2 hgr
      have kk : Below w.heap.size w w2 := below_grown hgr (by intro k h; cases h)
      rcases ho2.2 with ⟨_, h0⟩ | ⟨r, cp, cur, rfl, hr, hb, hc, _, hsz, _⟩
      · omega
      · have hlt : 0 < cur.size := by omega
        exact hk r 0 cp _ cur w2 hb (by unfold World.cell?; rw [hb]; exact Array.getElem?_eq_getElem hlt) (by omega) (Or.inr hr) (h.below kk) (KI.of_below kk)

end Go.Proofs.Ythjeedlhlkggkab
