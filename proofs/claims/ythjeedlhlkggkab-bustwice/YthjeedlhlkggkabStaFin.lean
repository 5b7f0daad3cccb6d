/- Sorted by halves from blocks on; what comes out is the parcels in order, those alike as they stood: plain facts. -/
import Derived.Test.YthjeedlhlkggkabStaPlain
namespace Go.Proofs.Ythjeedlhlkggkab

/-- How two parcels compare. -/
def cmpP (p r : Pc) : Int := if p.du < r.du then -1 else if r.du < p.du then 1 else if p.se < r.se then -1 else if r.se < p.se then 1 else 0
theorem cmpP_neg (p r : Pc) : cmpP p r < 0 ↔ leP r p = false := by
  unfold cmpP leP
  simp only [decide_eq_false_iff_not]
  split
  · constructor <;> intro <;> omega
  · split
    · constructor <;> intro <;> omega
    · split
      · constructor <;> intro <;> omega
      · split <;> constructor <;> intro <;> omega
theorem cmpP_in (p r : Pc) : -1 ≤ cmpP p r ∧ cmpP p r ≤ 1 := by
  unfold cmpP; split
  · omega
  · split
    · omega
    · split
      · omega
      · split <;> omega
/-- Which of two places goes ahead: by what stood there, then by the place. -/
def TQ (q : Nat → Pc) (x y : Nat) : Prop := leP (q y) (q x) = false ∨ (leP (q x) (q y) = true ∧ x < y)
theorem whole_TQ (q : Nat → Pc) : Whole (TQ q) := by
  refine ⟨fun x h => ?_, fun x y z h k => ?_, fun x y => ?_⟩
  · rcases h with h | h
    · rw [leP_refl] at h; cases h
    · omega
  · unfold TQ leP at *
    simp only [decide_eq_false_iff_not, decide_eq_true_eq] at *
    omega
  · rcases Nat.lt_trichotomy x y with h | h | h
    · unfold TQ leP
      simp only [decide_eq_false_iff_not, decide_eq_true_eq]
      omega
    · exact Or.inr (Or.inl h)
    · unfold TQ leP
      simp only [decide_eq_false_iff_not, decide_eq_true_eq]
      omega
theorem tq_yes {q : Nat → Pc} {x y : Nat} (k : cmpP (q y) (q x) < 0) : TQ q y x := Or.inl ((cmpP_neg _ _).1 k)
theorem tq_no {q : Nat → Pc} {x y : Nat} (h : x < y) (k : ¬ cmpP (q y) (q x) < 0) : TQ q x y := by
  have e : leP (q x) (q y) = true := by
    rcases e : leP (q x) (q y) with _ | _
    · exact absurd ((cmpP_neg _ _).2 e) k
    · rfl
  exact Or.inr ⟨e, h⟩
section
variable {T : Nat → Nat → Prop} {d e : Nat → Nat} {a b m lo hi n s : Nat}
/-- Sorted, and just those that stood there. -/
structure Done (T : Nat → Nat → Prop) (d : Nat → Nat) (a b : Nat) : Prop where
  so : SoT T d a b
  inn : ∀ x, a ≤ x → x < b → a ≤ d x ∧ d x < b
  all : ∀ v, a ≤ v → v < b → ∃ x, a ≤ x ∧ x < b ∧ d x = v
theorem Done.start (h : ∀ x, a ≤ x → x < b → d x = x) (k : Same a b d e) (s : SoT T e a b) : Done T e a b := by
  refine ⟨s, fun x h1 h2 => ?_, fun v h1 h2 => ?_⟩
  · obtain ⟨y, y1, y2, ey⟩ := k.of x h1 h2
    rw [ey, h y y1 y2]; omega
  · obtain ⟨x, x1, x2, ex⟩ := k.to v h1 h2
    exact ⟨x, x1, x2, by rw [← ex, h v h1 h2]⟩
theorem Done.mg (h : Done T d a m) (k : Done T d m b) : Mg T d a m b := ⟨h.so, k.so, fun i j h1 h2 h3 h4 => by have := (h.inn i h1 h2).2; have := (k.inn j h3 h4).1; omega⟩
theorem Done.merge (h : Done T d a m) (k : Done T d m b) (ham : a ≤ m) (hmb : m ≤ b) (g : Same a b d e) (s : SoT T e a b) : Done T e a b := by
  refine ⟨s, fun x h1 h2 => ?_, fun v h1 h2 => ?_⟩
  · obtain ⟨y, y1, y2, ey⟩ := g.of x h1 h2
    rw [ey]
    by_cases c : y < m
    · have := h.inn y y1 c; omega
    · have := k.inn y (by omega) y2; omega
  · have : ∃ y, a ≤ y ∧ y < b ∧ d y = v := by
      by_cases c : v < m
      · obtain ⟨y, y1, y2, ey⟩ := h.all v h1 c; exact ⟨y, y1, by omega, ey⟩
      · obtain ⟨y, y1, y2, ey⟩ := k.all v (by omega) h2; exact ⟨y, by omega, y2, ey⟩
    obtain ⟨y, y1, y2, ey⟩ := this
    obtain ⟨x, x1, x2, ex⟩ := g.to y y1 y2
    exact ⟨x, x1, x2, by rw [← ex, ey]⟩
theorem Done.same (h : Done T d a b) (k : Same lo hi d e) (hs : b ≤ lo ∨ hi ≤ a) : Done T e a b := by
  have o : ∀ x, a ≤ x → x < b → e x = d x := fun x h1 h2 => k.out x (by omega)
  refine ⟨fun i j h1 h2 h3 => ?_, fun x h1 h2 => ?_, fun v h1 h2 => ?_⟩
  · rw [o i h1 (by omega), o j (by omega) h3]; exact h.so i j h1 h2 h3
  · rw [o x h1 h2]; exact h.inn x h1 h2
  · obtain ⟨x, x1, x2, ex⟩ := h.all v h1 h2
    exact ⟨x, x1, x2, by rw [o x x1 x2, ex]⟩
theorem blk_le {k q : Nat} (h : k < q) (s : Nat) : k * s + s ≤ q * s := by
  have := Nat.mul_le_mul_right s (show k + 1 ≤ q from h)
  rwa [Nat.add_mul, Nat.one_mul] at this
theorem blk_lt {k q s : Nat} (h : k * s < q * s) : k < q := Nat.lt_of_mul_lt_mul_right h
/-- The first q blocks. -/
structure Ps1 (T : Nat → Nat → Prop) (s q : Nat) (d : Nat → Nat) : Prop where
  bl : ∀ k, k < q → Done T d (k * s) (k * s + s)
  un : ∀ x, q * s ≤ x → d x = x
theorem Ps1.start (s : Nat) : Ps1 T s 0 (fun x => x) := ⟨fun _ h => absurd h (by omega), fun _ _ => rfl⟩
theorem Ps1.step {q : Nat} (h : Ps1 T s q d) (k : Same (q * s) (q * s + s) d e) (so : SoT T e (q * s) (q * s + s)) : Ps1 T s (q + 1) e := by
  refine ⟨fun i hi => ?_, fun x hx => ?_⟩
  · by_cases c : i = q
    · subst c; exact Done.start (fun x h1 _ => h.un x h1) k so
    · have := blk_le (show i < q by omega) s
      exact (h.bl i (by omega)).same k (by omega)
  · rw [Nat.add_mul, Nat.one_mul] at hx
    rw [k.out x (by omega)]; exact h.un x (by omega)
/-- All blocks. -/
def AllB (T : Nat → Nat → Prop) (s n : Nat) (d : Nat → Nat) : Prop := ∀ k, k * s < n → Done T d (k * s) (min (k * s + s) n)
theorem Ps1.done {q : Nat} (h : Ps1 T s q d) (h1 : q * s ≤ n) (h2 : n < q * s + s) (k : Same (q * s) n d e) (so : SoT T e (q * s) n) : AllB T s n e := by
  intro i hi
  by_cases c : i < q
  · have := blk_le c s
    rw [Nat.min_eq_left (by omega)]
    exact (h.bl i c).same k (by omega)
  · have c2 : i = q := by
      rcases Nat.lt_or_ge q i with g | g
      · have := blk_le g s; omega
      · omega
    subst c2
    rw [Nat.min_eq_right (by omega)]
    exact Done.start (fun x h1 _ => h.un x h1) k so
/-- The first q pairs of blocks merged. -/
structure Ps2 (T : Nat → Nat → Prop) (s q n : Nat) (d : Nat → Nat) : Prop where
  two : ∀ k, k < q → Done T d (k * (2 * s)) (k * (2 * s) + 2 * s)
  one : ∀ k, 2 * q ≤ k → k * s < n → Done T d (k * s) (min (k * s + s) n)
theorem Ps2.start (h : AllB T s n d) : Ps2 T s 0 n d := ⟨fun _ h => absurd h (by omega), fun k _ hk => h k hk⟩
theorem two_mul_blk (q s : Nat) : 2 * q * s = q * (2 * s) := by rw [Nat.mul_comm 2 q, Nat.mul_assoc]
theorem Ps2.left {q : Nat} (h : Ps2 T s q n d) (k : q * (2 * s) + s ≤ n) (hs : 0 < s) : Done T d (q * (2 * s)) (q * (2 * s) + s) := by
  have := h.one (2 * q) (Nat.le_refl _) (by rw [two_mul_blk]; omega)
  rw [two_mul_blk, Nat.min_eq_left (by omega)] at this
  exact this
theorem Ps2.right {q : Nat} (h : Ps2 T s q n d) (k : q * (2 * s) + s < n) : Done T d (q * (2 * s) + s) (min (q * (2 * s) + 2 * s) n) := by
  have := h.one (2 * q + 1) (by omega) (by rw [Nat.add_mul, Nat.one_mul, two_mul_blk]; exact k)
  rw [Nat.add_mul, Nat.one_mul, two_mul_blk, show q * (2 * s) + s + s = q * (2 * s) + 2 * s by omega] at this
  exact this
theorem Ps2.step {q : Nat} (h : Ps2 T s q n d) (hs : 0 < s) (k : q * (2 * s) + 2 * s ≤ n) (g : Same (q * (2 * s)) (q * (2 * s) + 2 * s) d e) (so : SoT T e (q * (2 * s)) (q * (2 * s) + 2 * s)) : Ps2 T s (q + 1) n e := by
  have h1 := h.left (by omega) hs
  have h2 := h.right (by omega)
  rw [Nat.min_eq_left k] at h2
  refine ⟨fun i hi => ?_, fun i hi hn => ?_⟩
  · by_cases c : i = q
    · subst c; exact h1.merge h2 (by omega) (by omega) g so
    · have := blk_le (show i < q by omega) (2 * s)
      exact (h.two i (by omega)).same g (by omega)
  · have b1 := Nat.mul_le_mul_right s hi
    rw [show 2 * (q + 1) * s = q * (2 * s) + 2 * s by rw [two_mul_blk, Nat.add_mul, Nat.one_mul]] at b1
    exact (h.one i (by omega) hn).same g (by omega)
theorem Ps2.cases {q i : Nat} (h2 : n < q * (2 * s) + 2 * s) (hi : i * (2 * s) < n) : i < q ∨ i = q := by
  rcases Nat.lt_or_ge q i with g | g
  · have := blk_le g (2 * s); omega
  · omega
theorem Ps2.done {q : Nat} (h : Ps2 T s q n d) (h2 : n < q * (2 * s) + 2 * s) (h3 : n ≤ q * (2 * s) + s) (h1 : q * (2 * s) ≤ n) : AllB T (2 * s) n d := by
  intro i hi
  rcases Ps2.cases h2 hi with c | c
  · have := blk_le c (2 * s)
    rw [Nat.min_eq_left (by omega)]
    exact h.two i c
  · subst c
    have := h.one (2 * i) (Nat.le_refl _) (by rw [two_mul_blk]; exact hi)
    rw [two_mul_blk, Nat.min_eq_right (by omega)] at this
    rw [Nat.min_eq_right (by omega)]
    exact this
theorem Ps2.last {q : Nat} (h : Ps2 T s q n d) (hs : 0 < s) (h2 : n < q * (2 * s) + 2 * s) (h3 : q * (2 * s) + s < n) (g : Same (q * (2 * s)) n d e) (so : SoT T e (q * (2 * s)) n) : AllB T (2 * s) n e := by
  have a1 := h.left (by omega) hs
  have a2 := h.right h3
  rw [Nat.min_eq_right (by omega)] at a2
  intro i hi
  rcases Ps2.cases h2 hi with c | c
  · have := blk_le c (2 * s)
    rw [Nat.min_eq_left (by omega)]
    exact (h.two i c).same g (by omega)
  · subst c
    rw [Nat.min_eq_right (by omega)]
    exact a1.merge a2 (by omega) (by omega) g so
theorem AllB.done (h : AllB T s n d) (k : n ≤ s) : Done T d 0 n := by
  by_cases c : n = 0
  · subst c; exact ⟨fun i j _ _ _ => by omega, fun _ _ _ => by omega, fun _ _ _ => by omega⟩
  · have := h 0 (by omega)
    rw [Nat.zero_mul, Nat.zero_add, Nat.min_eq_right k] at this
    exact this
end
/-- The same by places. -/
def insI (q : Nat → Pc) (i : Nat) : List Nat → List Nat
  | [] => [i]
  | j :: l => if leP (q i) (q j) = true then i :: j :: l else j :: insI q i l
def srtI (q : Nat → Pc) : List Nat → List Nat
  | [] => []
  | i :: l => insI q i (srtI q l)
theorem insI_map (q : Nat → Pc) (i : Nat) (l : List Nat) : (insI q i l).map q = insP (q i) (l.map q) := by
  induction l with
  | nil => rfl
  | cons j l ih =>
    show (if leP (q i) (q j) = true then i :: j :: l else j :: insI q i l).map q = if leP (q i) (q j) = true then _ else _
    split
    · rfl
    · rw [List.map_cons, ih]
theorem srtI_map (q : Nat → Pc) (l : List Nat) : (srtI q l).map q = srtP (l.map q) := by
  induction l with
  | nil => rfl
  | cons i l ih => show (insI q i (srtI q l)).map q = insP (q i) (srtP (l.map q)); rw [insI_map, ih]
theorem insI_mem {q : Nat → Pc} {i x : Nat} {l : List Nat} : x ∈ insI q i l ↔ x = i ∨ x ∈ l := by
  induction l with
  | nil => simp [insI]
  | cons j l ih =>
    unfold insI
    split
    · simp
    · simp only [List.mem_cons, ih]
      constructor
      · rintro (h | h | h)
        · exact Or.inr (Or.inl h)
        · exact Or.inl h
        · exact Or.inr (Or.inr h)
      · rintro (h | h | h)
        · exact Or.inr (Or.inl h)
        · exact Or.inl h
        · exact Or.inr (Or.inr h)
theorem srtI_mem {q : Nat → Pc} {x : Nat} {l : List Nat} : x ∈ srtI q l ↔ x ∈ l := by
  induction l with
  | nil => exact Iff.rfl
  | cons j l ih => show x ∈ insI q j (srtI q l) ↔ _; rw [insI_mem, ih]; simp
theorem insI_so {q : Nat → Pc} {i : Nat} {l : List Nat} (hl : ∀ j, j ∈ l → i < j) (h : l.Pairwise (TQ q)) : (insI q i l).Pairwise (TQ q) := by
  induction l with
  | nil => exact List.pairwise_singleton ..
  | cons j l ih =>
    obtain ⟨h1, h2⟩ := List.pairwise_cons.1 h
    have hij := hl j (List.mem_cons_self ..)
    unfold insI
    split
    · rename_i hp
      refine List.pairwise_cons.2 ⟨fun x hx => ?_, h⟩
      rcases List.mem_cons.1 hx with rfl | hx
      · exact Or.inr ⟨hp, hij⟩
      · exact (whole_TQ q).tr _ _ _ (Or.inr ⟨hp, hij⟩) (h1 x hx)
    · rename_i hp
      refine List.pairwise_cons.2 ⟨fun x hx => ?_, ih (fun x hx => hl x (List.mem_cons_of_mem _ hx)) h2⟩
      rcases insI_mem.1 hx with rfl | hx
      · exact Or.inl (by simpa using hp)
      · exact h1 x hx
theorem srtI_so {q : Nat → Pc} {l : List Nat} (h : l.Pairwise (· < ·)) : (srtI q l).Pairwise (TQ q) := by
  induction l with
  | nil => exact List.Pairwise.nil
  | cons i l ih =>
    obtain ⟨h1, h2⟩ := List.pairwise_cons.1 h
    exact insI_so (fun j hj => h1 j (srtI_mem.1 hj)) (ih h2)
/-- There is but one such list. -/
theorem so_one {T : Nat → Nat → Prop} (W : Whole T) : ∀ {l m : List Nat}, l.Pairwise T → m.Pairwise T → (∀ x, x ∈ l ↔ x ∈ m) → l = m
  | [], [], _, _, _ => rfl
  | [], y :: m, _, _, h => absurd ((h y).2 (List.mem_cons_self ..)) (by simp)
  | x :: l, [], _, _, h => absurd ((h x).1 (List.mem_cons_self ..)) (by simp)
  | x :: l, y :: m, hl, hm, h => by
    obtain ⟨l1, l2⟩ := List.pairwise_cons.1 hl
    obtain ⟨m1, m2⟩ := List.pairwise_cons.1 hm
    have exy : x = y := by
      rcases List.mem_cons.1 ((h x).1 (List.mem_cons_self ..)) with e | e
      · exact e
      · rcases List.mem_cons.1 ((h y).2 (List.mem_cons_self ..)) with f | f
        · exact f.symm
        · exact absurd (W.tr _ _ _ (m1 x e) (l1 y f)) (W.irr _)
    subst exy
    rw [so_one W l2 m2 fun z => ?_]
    constructor
    · intro hz
      rcases List.mem_cons.1 ((h z).1 (List.mem_cons_of_mem _ hz)) with e | e
      · subst e; exact absurd (l1 z hz) (W.irr _)
      · exact e
    · intro hz
      rcases List.mem_cons.1 ((h z).2 (List.mem_cons_of_mem _ hz)) with e | e
      · subst e; exact absurd (m1 z hz) (W.irr _)
      · exact e
/-- What comes out. -/
theorem done_srt {q : Nat → Pc} {n : Nat} {d : Nat → Nat} (h : Done (TQ q) d 0 n) : (List.range n).map (fun i => q (d i)) = srtP ((List.range n).map q) := by
  have e : (List.range n).map d = srtI q (List.range n) := by
    refine so_one (whole_TQ q) ?_ (srtI_so List.pairwise_lt_range) fun x => ?_
    · rw [List.pairwise_iff_getElem]
      intro i j hi hj hij
      simp only [List.length_map, List.length_range] at hi hj
      simp only [List.getElem_map, List.getElem_range]
      exact h.so i j (by omega) hij hj
    · rw [srtI_mem, List.mem_map, List.mem_range]
      constructor
      · rintro ⟨i, hi, rfl⟩
        rw [List.mem_range] at hi
        exact (h.inn i (by omega) hi).2
      · intro hx
        obtain ⟨i, _, hi, ei⟩ := h.all x (by omega) hx
        exact ⟨i, List.mem_range.2 hi, ei⟩
  rw [← srtI_map, ← e, List.map_map]
  rfl

end Go.Proofs.Ythjeedlhlkggkab
