/- The contracts of package clock: Middle, Spread. -/
import Derived.Test.YtgikknoklnbihaaClkOth
import Derived.Test.YtgikknoklnbihaaClkSmall
namespace Go.Proofs.Ytgikknoklnbihaa
open Go.RowKit Go.Shelf

theorem srt_all {P : Int → Prop} {l : List Int} (h : ∀ x, x ∈ l → P x) {k : Nat} {v : Int} (e : (srt l)[k]? = some v) : P v := h v ((srt_perm l).mem_iff.1 (List.mem_iff_getElem?.2 ⟨k, e⟩))
theorem lsN_mem {f : Nat → Int} {n : Nat} {x : Int} (h : x ∈ lsN f n) : ∃ i, i < n ∧ x = f i := by
  unfold lsN at h
  obtain ⟨i, hi, rfl⟩ := List.mem_map.1 h
  exact ⟨i, by simpa using hi, rfl⟩
/-- A number of a sorted row of one's own. -/
theorem own_srt {w : World} {B : Nat} {ao : Option Addr} {cap : Nat} {xs : List Int} (h : w.ownsRow B 3 1 (.slice ao xs.length cap) xs.length ((srt xs).map (Value.int .i64))) (h0 : 0 < xs.length) :
    ∃ b, ao = some ⟨b, 0, none⟩ ∧ ∀ k v, (srt xs)[k]? = some v → w.cell? ⟨b, k, none⟩ = some (.int .i64 v) := by
  have hh := h
  rcases h.2 with ⟨_, e⟩ | ⟨r, c, cur, e, _, _, hc, _⟩
  · omega
  · cases e
    refine ⟨r, rfl, fun k v hv => ?_⟩
    have := hh.cells (g := r) rfl k (.int .i64 v) (by rw [List.getElem?_map, hv]; rfl)
    rw [Addr.add_lit, Nat.zero_add] at this
    exact this

/-- Two cells. -/
def C2 (p q : Addr) (x y : Value) (w : World) : Prop := w.cell? p = some x ∧ w.cell? q = some y

set_option maxHeartbeats 1000000 in
theorem middle_any (g : Nat) (lb : Array Value) (f : Nat → Int) (n : Nat) (w : World) (hn : 1 ≤ n) (hn2 : n ≤ 64) (hf : ∀ i, R64 (f i)) (eg : ∀ args w, (callFunc g args).run Try.prog w = .ok (.enter g args) w) (hseq : GvOK g lb (lsN f n) w) :
    Calls Try.prog 23 #[.func (.func g) #[] lb] w fun e w' => ∃ m, IsMid f n m ∧ e = .returned (.int .i64 m) ∧ Below w.heap.size w w' := by
  have C := sorted_any g lb (lsN f n) w (by rw [lsN_len]; exact hn2) eg hseq
  clear hseq eg
  have HF := hide hf
  clear hf
  go_enter Try.func23, Try.ntmps23
  go_wp2_with fail
  refine C.mono ?_
  rintro e w1 ⟨ao, cap, rfl, h1, h2⟩
  obtain ⟨b, rfl, hc⟩ := own_srt h1 (by rw [lsN_len]; omega)
  rw [lsN_len] at *
  obtain ⟨q, eq⟩ : ∃ q : Nat, (n - 1) / 3 = q := ⟨_, rfl⟩
  have lq : q < n := by omega
  obtain ⟨x, hx⟩ : ∃ x, (srt (lsN f n))[q]? = some x := ⟨_, List.getElem?_eq_getElem (by rw [srt_len, lsN_len]; exact lq)⟩
  obtain ⟨y, hy⟩ : ∃ y, (srt (lsN f n))[n - 1 - q]? = some y := ⟨_, List.getElem?_eq_getElem (by rw [srt_len, lsN_len]; omega)⟩
  have cx := hc _ _ hx; have cy := hc _ _ hy
  have rx : R64 x := srt_all (P := R64) (fun z hz => by obtain ⟨i, _, rfl⟩ := lsN_mem hz; exact unhide HF i) hx
  have ry : R64 y := srt_all (P := R64) (fun z hz => by obtain ⟨i, _, rfl⟩ := lsN_mem hz; exact unhide HF i) hy
  have M := hide (show IsMid f n ((x + y) / 2) from by subst eq; exact mid_srt hx hy)
  have K := hide h2
  obtain ⟨p, ep⟩ : ∃ p : Nat, n - 1 - q = p := ⟨_, rfl⟩
  rw [ep] at cy
  have ep' : (n : Int) - 1 - (q : Int) = (p : Int) := by omega
  have eq' : ((n : Int) - 1).tdiv 3 = (q : Int) := by
    rw [Int.tdiv_eq_ediv_of_nonneg (by omega)]; omega
  have lp : p < n := by omega
  clear C h1 h2 hc hx hy
  go_wp2_with fail
  have wn : IntKind.i64.wrap ((n : Int) - 1) = (n : Int) - 1 := by rw [IntKind.wrap_i64]; omega
  have wp : IntKind.i64.wrap (p : Int) = (p : Int) := by rw [IntKind.wrap_i64]; omega
  have i1 : 0 ≤ (p : Int) ∧ (p : Int) < (n : Int) := by omega
  have i2 : 0 ≤ (q : Int) ∧ (q : Int) < (n : Int) := by omega
  refine region_by (S := C2 ⟨b, q, none⟩ ⟨b, p, none⟩ (.int .i64 x) (.int .i64 y))
    [(0, false), (1, false), (2, false), (3, false), (4, false), (5, false), (6, false), (7, false), (8, false), (9, false), (10, false), (11, false), (12, true), (13, true)] [] (by kernel_rfl) (by kernel_rfl) ?_
  have hS : C2 ⟨b, q, none⟩ ⟨b, p, none⟩ (.int .i64 x) (.int .i64 y) w1.drew := ⟨cx, cy⟩
  iterate 12
    refine seq_read (v := ?_) rfl (fun _ _ _ h => h) (by rfl) hS ?_ ?_
    rotate_left 1
    · intro wx hwx
      obtain ⟨k1, k2⟩ := hwx
      go_simp <;> exact rfl
    go_frame
  refine seq_do rfl (fun K hK => ?_)
  go_simp
  refine (halfDown_any x y _ rx ry).mono ?_
  rintro e w2 ⟨rfl, rfl⟩
  refine hK _ _ (fun _ => hS) ?_
  clear hK K
  refine seq_do rfl (fun K hK => ?_)
  go_simp
  refine hK _ _ (fun _ => hS) ?_
  clear hK K
  refine seq_end ?_
  clear cx cy hS
  obtain ⟨m, em⟩ : ∃ m, (x + y) / 2 = m := ⟨_, rfl⟩
  rw [em] at M ⊢
  clear em
  go_wp2_with fail
  go_ret
  exact ⟨m, unhide M, rfl, below_drew (unhide K)⟩

theorem clockMiddle_ok : MdOK 11 := by
  intro ao n cap f w hf hl hc hs
  by_cases h0 : n = 0
  · subst h0
    go_enter Try.func11, Try.ntmps11
    go_wp2_with fail
    go_ret2
    exact ⟨0, 8, Or.inr ⟨by omega, rfl, rfl⟩, rfl, Below.refl _ _⟩
  · have z : (((n : Nat) : Int) == 0) = false := by simp; omega
    by_cases h1 : 64 < n
    · have h1' : 64 < (n : Int) := by omega
      have HF := hide hf; have HS := hide hs
      clear hf hs
      go_enter Try.func11, Try.ntmps11
      go_wp2_with fail
      go_ret2
      exact ⟨0, 8, Or.inr ⟨by omega, rfl, rfl⟩, rfl, Below.refl _ _⟩
    · have h1' : (n : Int) ≤ 64 := by omega
      obtain ⟨b, o, rfl, hcell⟩ := hs.rd (by omega)
      have HF := hide hf; have HC := hide hcell
      clear hf hcell hs
      go_enter Try.func11, Try.ntmps11
      go_wp2_with fail
      refine (values_any (some ⟨b, o, none⟩) n cap _).mono ?_
      rintro e w1 ⟨rfl, bx, k1, s1⟩
      have G := middle_any 35 #[.pointer (some ⟨w.heap.size, 0, none⟩)] f n w1 (by omega) (by omega) (unhide HF) (enters_of Try.func35 (by kernel_rfl) rfl)
        (values1_gives w.heap.size b o n cap f w1 (by omega) (bx.cell (i := 0) (by omega)) (fun i hi => at_below (unhide HC i hi) k1))
      have K1 := hide k1
      clear bx k1 s1
      go_wp2_with fail
      refine G.mono ?_
      rintro e w2 ⟨m, hm, rfl, k2⟩
      have M := hide hm; have K2 := hide ((unhide K1).trans (k2.mono (unhide K1).size))
      clear hm k2 G
      go_wp2_with fail
      go_ret2
      exact ⟨m, 0, Or.inl ⟨by omega, by omega, rfl, unhide M⟩, rfl, unhide K2⟩


theorem alB_sp {f : Nat → Int} : (alB f 2199023255552 = true → ¬ spBad f) ∧ (alB f 2199023255552 = false → spBad f) := by
  constructor
  · intro h
    have h := of_decide_eq_true h
    rintro ⟨i, hi, hb⟩
    have := h i hi
    omega
  · intro h
    have h := of_decide_eq_false h
    by_cases c : spBad f
    · exact c
    · exfalso
      apply h
      intro i hi
      have : ¬ (f i < -2199023255552 ∨ 2199023255552 < f i) := fun e => c ⟨i, hi, e⟩
      omega
set_option maxHeartbeats 1000000 in
theorem clockSpread_ok : SpOK 15 := by
  intro f bad w hf hb
  obtain ⟨w1, e1, mA, k1, s1⟩ := f4_alloc w f
  have c0 := mA.cell (show 0 < 4 by omega); have c1 := mA.cell (show 1 < 4 by omega); have c2 := mA.cell (show 2 < 4 by omega); have c3 := mA.cell (show 3 < 4 by omega)
  have CA := allWithin_any f 2199023255552 w1 hf (by omega) (by omega)
  unfold fourV at CA
  have E1 := hide e1; have K1 := hide k1; have HF := hide hf; have MA := hide mA
  clear e1 mA k1 s1 hf
  unfold fourV
  go_enter Try.func15, Try.ntmps15
  go_wp2_with fail
  rw [← unhide E1]
  go_wp2_with fail
  refine CA.mono ?_
  rintro e w2 ⟨rfl, k2⟩
  have K2 := hide ((unhide K1).trans (k2.mono (unhide K1).size)); have mA2 := (unhide MA).below k2
  clear CA k2 c0 c1 c2 c3
  obtain ⟨hy, hn⟩ := alB_sp (f := f)
  cases c : alB f 2199023255552
  · have B := hide (hn c)
    clear c hy hn mA2
    go_wp2_with fail
    go_ret2
    exact ⟨0, 3, Or.inl ⟨unhide B, rfl, rfl⟩, rfl, unhide K2⟩
  · have B := hide (hy c)
    have bnd : ∀ i : Nat, i < 4 → -2199023255552 ≤ f i ∧ f i ≤ 2199023255552 := of_decide_eq_true c
    have BN := hide bnd
    clear c hy hn bnd
    have c0 := mA2.cell (show 0 < 4 by omega); have c1 := mA2.cell (show 1 < 4 by omega); have c2 := mA2.cell (show 2 < 4 by omega); have c3 := mA2.cell (show 3 < 4 by omega)
    have CO := others_any f bad w2
    unfold fourV at CO
    clear mA2
    go_wp2_with fail
    refine CO.mono ?_
    rintro e w3 ⟨rfl, m3, n3, k3⟩
    have CS := sorted_any _ _ (oth f bad 4) w3 (by have := oth_len_le f bad 4; omega) (enters_of Try.func41 (by kernel_rfl) rfl) (others1_gives _ _ f bad w3 m3 n3)
    have K3 := hide ((unhide K2).trans (k3.mono (unhide K2).size))
    clear CO m3 n3 k3 c0 c1 c2 c3
    go_wp2_with fail
    refine CS.mono ?_
    rintro e w4 ⟨ao, cap, rfl, h1, k4⟩
    have K4 := hide ((unhide K3).trans (k4.mono (unhide K3).size))
    have lp := oth_pos f bad; have ll := oth_len_le f bad 4
    obtain ⟨b, rfl, hc⟩ := own_srt h1 lp
    obtain ⟨x, hx⟩ : ∃ x, (srt (oth f bad 4))[0]? = some x := ⟨_, List.getElem?_eq_getElem (by rw [srt_len]; exact lp)⟩
    obtain ⟨y, hy⟩ : ∃ y, (srt (oth f bad 4))[(oth f bad 4).length - 1]? = some y := ⟨_, List.getElem?_eq_getElem (by rw [srt_len]; omega)⟩
    have cx := hc _ _ hx; have cy := hc _ _ hy
    have rx : -2199023255552 ≤ x ∧ x ≤ 2199023255552 := srt_all (P := fun z => -2199023255552 ≤ z ∧ z ≤ 2199023255552) (fun z hz => by obtain ⟨i, hi, _, rfl⟩ := oth_mem.1 hz; exact unhide BN i hi) hx
    have ry : -2199023255552 ≤ y ∧ y ≤ 2199023255552 := srt_all (P := fun z => -2199023255552 ≤ z ∧ z ≤ 2199023255552) (fun z hz => by obtain ⟨i, hi, _, rfl⟩ := oth_mem.1 hz; exact unhide BN i hi) hy
    have M := hide (show IsSp f bad (y - x) from sp_srt hx hy)
    obtain ⟨L, eL⟩ : ∃ L, (oth f bad 4).length = L := ⟨_, rfl⟩
    rw [eL] at cy lp ll ⊢
    obtain ⟨p, ep⟩ : ∃ p, L = p + 1 := ⟨L - 1, by omega⟩
    subst ep
    rw [Nat.add_sub_cancel] at cy
    clear CS h1 k4 hc hx hy eL
    have wl : IntKind.i64.wrap (((p + 1 : Nat) : Int) - 1) = (p : Int) := by rw [IntKind.wrap_i64]; omega
    have wy : IntKind.i64.wrap (y - x) = y - x := by rw [IntKind.wrap_i64]; omega
    go_wp2_with fail
    go_region
    go_wp2_with fail
    go_ret2
    exact ⟨y - x, 0, Or.inr ⟨unhide B, rfl, unhide M⟩, rfl, below_drew (unhide K4)⟩

end Go.Proofs.Ytgikknoklnbihaa
