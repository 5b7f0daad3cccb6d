/- Contracts of package agree: a teller's lies, one after another. -/
import Derived.Test.YtomlpcbccfmejaaAgrMaj
import Derived.Test.YtomlpcbccfmejaaAgrCnt
namespace Go.Proofs.Ytomlpcbccfmejaa
open Go.RowKit

/-- The block of a teller. -/
def TL (w : World) (b : Nat) (bad : Int) (v : Value) : Prop := w.heap[b]? = some (.cells #[.int .i64 bad, v] 35 (0, 0))
/-- The lies that are left behind c of them. -/
def Lv (w0 : World) (g : Nat → Int) (ln c : Nat) (v : Value) : Prop := ∃ ao n cap, v = .slice ao n cap ∧ n = ln - c ∧ n ≤ cap ∧ Rd w0 ao n (fun i => iF g (c + i))
section
variable {w w' w0 : World} {b : Nat} {bad : Int} {v : Value} {g : Nat → Int} {ln c : Nat}
theorem TL.cell0 (h : TL w b bad v) : w.cell? ⟨b, 0, none⟩ = some (.int .i64 bad) := by unfold TL at h; unfold World.cell?; rw [h]; rfl
theorem TL.cell1 (h : TL w b bad v) : w.cell? ⟨b, 1, none⟩ = some v := by unfold TL at h; unfold World.cell?; rw [h]; rfl
theorem TL.free (h : TL w b bad v) (i : Nat) : w.frozen? ⟨b, i, none⟩ = false := by unfold TL at h; simp [World.frozen?, h]
theorem TL.lt (h : TL w b bad v) : b < w.heap.size := lt_of_block h
theorem TL.same (h : TL w b bad v) (e : w'.heap[b]? = w.heap[b]?) : TL w' b bad v := e.trans h
theorem TL.set (h : TL w b bad v) (u : Value) : TL (w.setCell ⟨b, 1, none⟩ u) b bad u := by
  unfold TL at h ⊢
  exact heap_setCell_same w b 1 _ _ u h
theorem TL.new (w : World) (bad : Int) (v : Value) : TL (w.alloc (.cells #[.int .i64 bad, v] 35)) w.heap.size bad v := by
  unfold TL
  show (w.heap.push _)[w.heap.size]? = _
  rw [Array.getElem?_push_size]
/-- A teller behind c of its lies. -/
def TJ (w0 : World) (g : Nat → Int) (ln : Nat) (bad : Int) (b c : Nat) (w : World) : Prop := ∃ v, TL w b bad v ∧ Lv w0 g ln c v
theorem TJ.lt (h : TJ w0 g ln bad b c w) : b < w.heap.size := by obtain ⟨v, h, _⟩ := h; exact h.lt
theorem TJ.same (h : TJ w0 g ln bad b c w) (e : w'.heap[b]? = w.heap[b]?) : TJ w0 g ln bad b c w' := by obtain ⟨v, h, l⟩ := h; exact ⟨v, h.same e, l⟩
theorem TJ.below (h : TJ w0 g ln bad b c w) (k : Below w.heap.size w w') : TJ w0 g ln bad b c w' := h.same (k.block b h.lt)
theorem TJ.kept {z : Nat} (h : TJ w0 g ln bad b c w) (k : Kept z w w') (hz : b ≠ z) : TJ w0 g ln bad b c w' := h.same (k.block b h.lt hz)
end

theorem tellLie_any (b : Nat) (bad : Int) (c ln : Nat) (g : Nat → Int) (w0 w : World) (hj : TJ w0 g ln bad b c w) (hk : Below w0.heap.size w0 w) :
    Calls Try.prog 21 #[.pointer (some ⟨b, 0, none⟩)] w fun e w' => e = .returned (.int .i64 (liF g ln c)) ∧ TJ w0 g ln bad b (c + 1) w' ∧ Kept b w w' := by
  obtain ⟨v, ht, ao, n, cap, rfl, hn, hc, hr⟩ := hj
  have c0 := ht.cell0; have c1 := ht.cell1; have f1 := ht.free 1
  have HN := hide hn
  clear hn
  by_cases h : 0 < n
  · obtain ⟨x, o, rfl, hcc⟩ := hr h
    have cx : w.cell? ⟨x, o, none⟩ = some (.int .i64 (g c)) := at_below (hcc 0 h) hk
    have E := hide (show liF g ln c = g c by unfold liF; rw [if_pos (by have := unhide HN; omega)])
    have T2 := hide (fun u => ht.set u); have HC := hide hcc
    have tn : (((n : Nat) : Int) == 0) = false := by simp; omega
    obtain ⟨m, rfl⟩ : ∃ m, n = m + 1 := ⟨n - 1, by omega⟩
    clear ht hr hcc
    by_cases h1 : cap = 1
    · subst h1
      have m0 : m = 0 := by omega
      subst m0
      go_enter Try.func21, Try.ntmps21
      go_wp2_with fail
      go_ret
      exact ⟨by rw [unhide E]; rfl, ⟨_, unhide T2 _, _, _, _, rfl, by have := unhide HN; omega, by omega, fun h => absurd h (by omega)⟩, kept_set _ _ _ _⟩
    · have h2 : cap - 1 ≠ 0 := by omega
      have h3 : 1 < cap := by omega
      go_enter Try.func21, Try.ntmps21
      go_wp2_with fail
      go_ret
      exact ⟨by rw [unhide E]; rfl, ⟨_, unhide T2 _, _, _, _, rfl, by have := unhide HN; omega, by omega, fun _ => ⟨x, o + 1, rfl, fun i hi => by
        have := unhide HC (i + 1) (by omega)
        dsimp only at this ⊢
        rw [show o + 1 + i = o + (i + 1) by omega, show c + 1 + i = c + (i + 1) by omega]
        exact this⟩⟩, kept_set _ _ _ _⟩
  · have n0 : n = 0 := by omega
    subst n0
    have E := hide (show liF g ln c = 0 by unfold liF; rw [if_neg (by have := unhide HN; omega)])
    have J := hide (show TJ w0 g ln bad b (c + 1) w from ⟨_, ht, ao, 0, cap, rfl, by have := unhide HN; omega, hc, fun h => absurd h (by omega)⟩)
    clear ht hr
    rw [show (.slice ao 0 cap : Value) = .slice ao 0 cap from rfl] at c1
    go_enter Try.func21, Try.ntmps21
    go_wp2_with fail
    go_ret
    exact ⟨by rw [unhide E]; rfl, unhide J, Kept.of_below (Below.refl _ _)⟩

theorem tellNext_any (b : Nat) (bad : Int) (c ln : Nat) (g : Nat → Int) (w0 w : World) (node truth : Int) (hj : TJ w0 g ln bad b c w) (hk : Below w0.heap.size w0 w) :
    Calls Try.prog 20 #[.pointer (some ⟨b, 0, none⟩), .int .i64 node, .int .i64 truth] w fun e w' => e = .returned (.int .i64 (if node = bad then liF g ln c else truth)) ∧ TJ w0 g ln bad b (if node = bad then c + 1 else c) w' ∧ Kept b w w' := by
  have c0 : w.cell? ⟨b, 0, none⟩ = some (.int .i64 bad) := by obtain ⟨v, ht, _⟩ := hj; exact ht.cell0
  have HJ := hide hj; have HK := hide hk
  clear hj hk
  by_cases h : node = bad
  · subst h
    have t1 : (node == node) = true := by simp
    rw [if_pos rfl, if_pos rfl]
    go_enter Try.func20, Try.ntmps20
    go_wp2_with fail
    clear c0
    refine (tellLie_any b node c ln g w0 _ (unhide HJ) (unhide HK)).mono ?_
    rintro e w2 ⟨rfl, j2, k2⟩
    have J2 := hide j2; have K2 := hide k2
    clear j2 k2
    go_wp2_with fail
    go_ret
    exact ⟨rfl, unhide J2, unhide K2⟩
  · have t1 : (node == bad) = false := by simp [h]
    rw [if_neg h, if_neg h]
    go_enter Try.func20, Try.ntmps20
    go_wp2_with fail
    go_ret
    exact ⟨rfl, unhide HJ, Kept.of_below (Below.refl _ _)⟩

end Go.Proofs.Ytomlpcbccfmejaa
