import Derived.Test.YtdhblehhgpdpdacGreatNear82
import Derived.WideKeyEntry
import Derived.WideKeyPair
import Derived.Test.YtdhblehhgpdpdacGreatNear136
namespace Go.Proofs.YtdhblehhgpdpdacGreat
open Go.RowKit Go.Maps Go.WideMaps Go.MapKept Go.ChangeMaps
def prV (p q : Int) : Value := .agg #[.int .i64 p, .int .i64 q]
theorem prKey : ArrKey Tryz.prog 36 3 2 := ⟨Tryz.underlying36, by kernel_rfl, by kernel_rfl, by kernel_rfl⟩
theorem prLaw : KeyLaw Tryz.prog 36 := prKey.law
theorem prKeyed : Keyed Tryz.prog 36 := Keyed.of_law prLaw
theorem prSize : ∃ m, Tryz.prog.types.size = m + 1 := ⟨Tryz.prog.types.size - 1, by kernel_rfl⟩
theorem prOf {p q : Int} (hp : R64 p) (hq : R64 q) : keyOf Tryz.prog 36 (prV p q) = some (.string (keyBytes [.int .i64 p, .int .i64 q])) := keyOf_pair prKey Tryz.underlying3 prSize (wf_R64 hp) (wf_R64 hq)
theorem prMap : Tryz.prog.underlying 32 = some (.map 36 3) := Tryz.underlying32
def M2 (w : World) (b n : Nat) (S : List (Int × Int)) : Prop := ∃ D : DataW Unit, w.ownsMap Tryz.prog 36 (plainElem Tryz.prog 3) b n D ∧ ∀ p q, R64 p → R64 q → D.atKey (.string (keyBytes [.int .i64 p, .int .i64 q])) (.lit (.int .i64 0)) = .lit (.int .i64 (if (p, q) ∈ S then 1 else 0))
section
variable {w w' : World} {b n : Nat} {S : List (Int × Int)}
theorem M2.lt (h : M2 w b n S) : b < w.heap.size := by obtain ⟨D, h, _⟩ := h; exact h.lt
theorem M2.same (h : M2 w b n S) (e : w'.heap[b]? = w.heap[b]?) : M2 w' b n S := by
 obtain ⟨D, ⟨es, clock, hb, F, hs, hD⟩, hf⟩ := h
 exact ⟨D, ⟨es, clock, e.trans hb, F, hs, hD⟩, hf⟩
theorem M2.new (w : World) : M2 (w.alloc (.map #[] 0)) w.heap.size 0 [] := ⟨.map [], World.ownsMap_made _ _ _ _, fun _ _ _ _ => rfl⟩
theorem M2.look (h : M2 w b n S) {p q : Int} (hp : R64 p) (hq : R64 q) : (Instr.lookup 32 (.map (some b)) (prV p q) false).run Tryz.prog w = .ok (.int .i64 (if (p, q) ∈ S then 1 else 0)) w := by
 obtain ⟨D, h, hf⟩ := h
 obtain ⟨c, hrun, hat, _⟩ := h.lookup_int prKeyed prMap Tryz.underlying3 (intZero w) (prOf hp hq)
 rw [hf p q hp hq] at hat
 cases hat
 exact hrun
theorem pr_inj {p q r s : Int} (hp : R64 p) (hq : R64 q) (hr : R64 r) (hs : R64 s) (h : keyBytes [.int .i64 p, .int .i64 q] = keyBytes [.int .i64 r, .int .i64 s]) : (p, q) = (r, s) := by
 have := prLaw.inj (prOf hp hq) (by rw [h]; exact prOf hr hs)
 unfold prV at this
 simp only [Value.agg.injEq, Array.mk.injEq, List.cons.injEq, Value.int.injEq, true_and, and_true] at this
 rw [this.1, this.2]
theorem set_twice {w : World} {b : Nat} {x y : Obj} : setBlock (setBlock w b x) b y = setBlock w b y := by
 unfold setBlock
 simp
theorem M2.entry (h : M2 w b n S) {p q : Int} (hp : R64 p) (hq : R64 q) (hn : n ≤ 1000000) (hno : (p, q) ∉ S) : ∃ (v0 : Value) (st : Nat) (w2 w4 : World), (Instr.mapEntry 32 (.map (some b)) (prV p q)).run Tryz.prog w = .ok (.tuple #[v0, goInt st]) w2 ∧
  (Instr.lookup 32 (.map (some b)) (prV p q) false).run Tryz.prog w2 = .ok (.int .i64 0) w2 ∧ (Instr.entryStore 32 (.map (some b)) (goInt st) (.int .i64 1)).run Tryz.prog w2 = .ok () w4 ∧ Kept b w w2 ∧ Kept b w w4 ∧ w2.heap.size = w.heap.size ∧ w4.heap.size = w.heap.size ∧ M2 w4 b (n + 1) ((p, q) :: S) := by
 have hlk := h.look hp hq
 rw [if_neg hno] at hlk
 obtain ⟨D, hO, hf⟩ := h
 have hD : IsMap D := by obtain ⟨es, clock, _, _, _, rfl⟩ := hO; exact ⟨_, rfl⟩
 obtain ⟨wu, hu, hu2, hug⟩ := hO.update prKeyed prMap (by unfold maxLen; omega) (prOf hp hq) (plainElem_int Tryz.underlying3 (wf_R64 (show R64 1 by unfold R64; omega)))
 obtain ⟨wz, hz, hz2, hzg⟩ := hO.update prKeyed prMap (by unfold maxLen; omega) (prOf hp hq) (plainElem_int Tryz.underlying3 (wf_R64 (show R64 0 by unfold R64; omega)))
 have hO' := hO
 obtain ⟨es, clock, hb, F, hs, rfl⟩ := hO'
 obtain ⟨v0, st, es1, clock1, hE, _, hS⟩ := WideElems.entry_then_store prLaw prMap (z := .int .i64 0) (fun u => intZero u) hb F (prOf hp hq)
 have hb2 : (setBlock w b (.map es1 clock1)).heap[b]? = some (.map es1 clock1) := heap_setBlock_same hb _
 obtain ⟨es', clock', hst, hup⟩ := hS _ (.int .i64 1) hb2
 rw [set_twice] at hst
 have ew : wu = setBlock w b (.map es' clock') := by
  rw [hu] at hup
  exact (Result.ok.inj hup).2
 have hkk : ∀ o : Obj, Kept b w (setBlock w b o) := fun o => ⟨rfl, rfl, rfl, by simp [setBlock], fun i _ hi => heap_setBlock_other hb _ hi⟩
 have hss : ∀ o : Obj, (setBlock w b o).heap.size = w.heap.size := fun o => by simp [setBlock]
 refine ⟨v0, st, _, _, hE, ?_, hst, hkk _, hkk _, hss _, hss _, ?_⟩
 ·rcases prLaw.find w (prOf hp hq) es.toList F.keys with ⟨h1, h2⟩ | ⟨j, e0, h1, h2, h3⟩
  ·have e1 : (Instr.mapEntry 32 (.map (some b)) (prV p q)).run Tryz.prog w = .ok (.tuple #[.int .i64 0, goInt clock]) (setBlock w b (.map (es.push ⟨prV p q, .int .i64 0, clock⟩) (clock + 1))) := by
    simp [Instr.mapEntry, run_underlying prMap, MapKept.run_getObj_map hb, prLaw.check w false (prOf hp hq), h1, MapKept.run_setObj_map _ hb, Result.andThen, setBlock]
   have e2 : (Instr.mapUpdate 32 (.map (some b)) (prV p q) (.int .i64 0)).run Tryz.prog w = .ok () (setBlock w b (.map (es.push ⟨prV p q, .int .i64 0, clock⟩) (clock + 1))) := by
    simp [Instr.mapUpdate, run_underlying prMap, MapKept.run_getObj_map hb, prLaw.check w false (prOf hp hq), h1, MapKept.run_setObj_map _ hb, Result.andThen, setBlock]
   rw [hE] at e1
   rw [hz] at e2
   have e3 : setBlock w b (.map es1 clock1) = wz := (Result.ok.inj e1).2.trans (Result.ok.inj e2).2.symm
   rw [e3]
   obtain ⟨c, hrun, hat, _⟩ := hz2.lookup_int prKeyed prMap Tryz.underlying3 (intZero wz) (prOf hp hq)
   rw [atKey_put_same hD (by simp [WideAt.IsKeyLit])] at hat
   cases hat
   exact hrun
  ·have hj : es[j]? = some e0 := by simpa using h2
   have hsame : es.modify j (fun e => { e with key := prV p q }) = es := by
    apply Array.ext'
    rw [Array.toList_modify, modify_eq_set _ _ _ _ h2]
    have : ({ e0 with key := prV p q } : MapEntry) = e0 := by rw [← h3]
    rw [this]
    exact WideElems.set_self _ _ _ h2
   have e1 : (Instr.mapEntry 32 (.map (some b)) (prV p q)).run Tryz.prog w = .ok (.tuple #[e0.val, goInt e0.born]) (setBlock w b (.map es clock)) := by
    simp [Instr.mapEntry, run_underlying prMap, MapKept.run_getObj_map hb, prLaw.check w false (prOf hp hq), h1, hj, h3, prLaw.stays w (prOf hp hq), hsame, MapKept.run_setObj_map _ hb, Result.andThen, setBlock]
   rw [hE] at e1
   rw [(Result.ok.inj e1).2]
   have hM : M2 (setBlock w b (.map es clock)) b n S := M2.same ⟨_, hO, hf⟩ ((heap_setBlock_same hb _).trans hb.symm)
   have := hM.look hp hq
   rw [if_neg hno] at this
   exact this
 ·rw [← ew]
  refine ⟨_, hu2, fun x y hx hy => ?_⟩
  by_cases e : (x, y) = (p, q)
  ·cases e
   rw [atKey_put_same hD (by simp [WideAt.IsKeyLit]), if_pos List.mem_cons_self]
  ·rw [atKey_put_other (fun h => e (pr_inj hx hy hp hq (by injection h))), hf x y hx hy]
   have : (x, y) ∈ (p, q) :: S ↔ (x, y) ∈ S := by rw [List.mem_cons]; exact ⟨fun h => h.resolve_left e, Or.inr⟩
   by_cases c : (x, y) ∈ S
   ·rw [if_pos c, if_pos (this.2 c)]
   ·rw [if_neg c, if_neg (fun h => c (this.1 h))]
end
end Go.Proofs.YtdhblehhgpdpdacGreat
namespace Go.Proofs.YtdhblehhgpdpdacGreat
open Go.RowKit
def kpS (bad fr : Int) (s : List (Int × Int) × List Lj) (c : Lj) : List (Int × Int) × List Lj := if fitL bad fr c.y = true ∧ (c.y.ph, c.y.wo) ∉ s.1 then ((c.y.ph, c.y.wo) :: s.1, s.2 ++ [c]) else s
def kpK (bad fr : Int) (l : List Lj) (q : Nat) : List (Int × Int) × List Lj := (l.take q).foldl (kpS bad fr) ([], [])
theorem kpK_succ {bad fr : Int} {l : List Lj} {q : Nat} {c : Lj} (h : l[q]? = some c) : kpK bad fr l (q + 1) = kpS bad fr (kpK bad fr l q) c := by
 unfold kpK
 rw [List.take_add_one, h, List.foldl_append]
 rfl
theorem kp_fold {bad fr : Int} : ∀ (l : List Lj) (s : List (Int × Int) × List Lj), (l.foldl (kpS bad fr) s).2.map Lj.y = s.2.map Lj.y ++ kpL bad fr s.1 (l.map Lj.y)
 | [], s => by show s.2.map Lj.y = _ ++ []; rw [List.append_nil]
 | c :: l, s => by
  show (l.foldl (kpS bad fr) (kpS bad fr s c)).2.map Lj.y = _
  rw [kp_fold l]
  show _ = _ ++ (if fitL bad fr c.y = true ∧ (c.y.ph, c.y.wo) ∉ s.1 then c.y :: kpL bad fr ((c.y.ph, c.y.wo) :: s.1) (l.map Lj.y) else kpL bad fr s.1 (l.map Lj.y))
  unfold kpS
  by_cases h : fitL bad fr c.y = true ∧ (c.y.ph, c.y.wo) ∉ s.1
  ·rw [if_pos h, if_pos h]
   dsimp only
   rw [List.map_append, List.append_assoc]
   rfl
  ·rw [if_neg h, if_neg h]
theorem kp_all {bad fr : Int} (l : List Lj) : (kpK bad fr l l.length).2.map Lj.y = kpL bad fr [] (l.map Lj.y) := by
 unfold kpK
 rw [List.take_length, kp_fold]
 rfl
theorem kp_sub {bad fr : Int} : ∀ (l : List Lj) (s : List (Int × Int) × List Lj) (c : Lj), c ∈ (l.foldl (kpS bad fr) s).2 → c ∈ s.2 ∨ c ∈ l
 | [], s, c, h => Or.inl h
 | d :: l, s, c, h => by
  rcases kp_sub l (kpS bad fr s d) c h with h | h
  ·unfold kpS at h
   split at h
   ·rcases List.mem_append.1 h with h | h
    ·exact Or.inl h
    ·exact Or.inr (by rw [List.mem_singleton.1 h]; exact List.mem_cons_self)
   ·exact Or.inl h
  ·exact Or.inr (List.mem_cons_of_mem _ h)
theorem kpK_sub {bad fr : Int} {l : List Lj} {q : Nat} {c : Lj} (h : c ∈ (kpK bad fr l q).2) : c ∈ l := by
 rcases kp_sub _ _ c h with h | h
 ·cases h
 ·exact List.mem_of_mem_take h
theorem kpK_len {bad fr : Int} {l : List Lj} : ∀ q, (kpK bad fr l q).2.length ≤ q
 | 0 => Nat.le_refl _
 | q + 1 => by
  have ih := kpK_len (bad := bad) (fr := fr) (l := l) q
  cases h : l[q]? with
  | none =>
   have : kpK bad fr l (q + 1) = kpK bad fr l q := by
    unfold kpK
    rw [List.take_add_one, h]
    simp
   rw [this]; omega
  | some c =>
   rw [kpK_succ h]
   unfold kpS
   split
   ·show (_ ++ [c]).length ≤ _
    rw [List.length_append]
    show _ + 1 ≤ _
    omega
   ·omega
theorem frR_nds {t : Tn} {bad : Int} {L : List Li} {k : Nat} {c : Li} (h : InOK L) (hb : OneB bad L) (hc : L[k]? = some c) : frR c.x (cK t L k) = (gdL bad 4).map fun i => (cK t L (k + 1)).nd i := by
 have hk := (List.getElem?_eq_some_iff.1 hc).1
 have hE := (cK_ok (t := t) h k (by omega)).2.2 c hc
 have e : c.x.bad = bad := hb c (List.mem_of_getElem? hc)
 unfold frR
 rw [if_pos hE, e]
 exact List.map_congr_left (fun i _ => (cK_nd h hc i).symm)
def liesI (B : Nat) (c : Li) : It := ownI B 35 3 (.slice c.lo c.LL.length c.lc) c.LL.length (rwS ljF 3 c.LL)
theorem ljrd_own {w : World} {B : Nat} {c : Li} (h : (liesI B c).p w) : LjRd w c.lo c.LL := fun hl => by
 have h' : World.ownsRow _ _ _ _ _ _ _ := h
 obtain ⟨g, cap, e, _, hc⟩ := rwS_rd h' hl (by decide)
 injection e with e1
 exact ⟨g, 0, e1, hc⟩
theorem ljF_one (c : Lj) : ∀ j, j < 3 → (ljF c j).oneCell' = true := fun j hj => by
 match j, hj with
 | 0, _ => rfl
 | 1, _ => rfl
 | 2, _ => rfl
theorem fit_R {bad fr : Int} {y : Ly} (h : fitL bad fr y = true) : R64 y.ph ∧ R64 y.wo := by
 unfold fitL at h
 simp only [Bool.and_eq_true, decide_eq_true_eq] at h
 unfold R64
 omega
theorem M2.mono {w : World} {b n m : Nat} {S : List (Int × Int)} (h : M2 w b n S) (e : n ≤ m) : M2 w b m S := by obtain ⟨D, h, hf⟩ := h; exact ⟨D, h.mono e, hf⟩
def m2I (b n : Nat) (S : List (Int × Int)) : It := ⟨fun w => M2 w b n S, fun k => k = b, fun h e => M2.same h (e _ h.lt rfl), fun h e => e ▸ h.lt⟩
def prF (p q : Int) (j : Nat) : Value := if j = 0 then iV p else iV q
instance : ManyK Tryz.prog 36 2 := ⟨⟨fun w => by kernel_rfl, fun w => by kernel_rfl⟩⟩
instance : ZerK Tryz.prog 36 2 (prF 0 0) := ⟨fun w => by kernel_rfl⟩
theorem prF_one (p q : Int) : ∀ j, j < 2 → (prF p q j).oneCell' = true := fun j hj => by
 match j, hj with
 | 0, _ => rfl
 | 1, _ => rfl
theorem prF_V (p q : Int) : agV (prF p q) 0 2 = prV p q := rfl
theorem run_bldPr {f : Operand → Value} {o : Oper} {x y : Operand} (ho : o.op = .build 36 #[(0, x), (1, y)]) {p q : Int} (hx : f x = .int .i64 p) (hy : f y = .int .i64 q) (w : World) : (execOp f o).run Tryz.prog w = .ok (.value (agV (prF p q) 0 2)) w := by
 unfold execOp
 rw [ho]
 simp only [List.map_toArray, List.map_cons, List.map_nil]
 rw [hx, hy]
 go_simp
 rfl
section
variable {P : Program} {f : Operand → Value} {o : Oper} {a : Act} {K : Act → World → Prop} {Q : Exit → Act → World → Prop} {w w' : World} {v : Value}
theorem wp_ok (h : (execOp a.eval o).run P w = .ok (.value v) w') (hk : K (a.put o.dst v) w') : WpI P o a w K Q := ⟨by unfold Oper.wp; rw [h]; exact hk⟩
theorem wp_skp (h : (execOp a.eval o).run P w = .ok .skip w') (hd : o.dst = none) (hk : K a w') : WpI P o a w K Q := ⟨by
 unfold Oper.wp
 rw [h]
 show K (a.put o.dst undef) _
 rw [hd]
 exact hk⟩
theorem run_lookM {t : TypeId} {x y : Operand} {b : Nat} {key : Value} (ho : o.op = .lookup t x y false) (hx : f x = .map (some b)) (hy : f y = key) (h : (Instr.lookup t (.map (some b)) key false).run P w = .ok v w) : (execOp f o).run P w = .ok (.value v) w := by
 unfold execOp
 rw [ho]
 dsimp only
 rw [hx, hy]
 simp [h, Result.andThen]
theorem run_entM {t : TypeId} {x y : Operand} {b : Nat} {key : Value} (ho : o.op = .mapEntry t x y) (hx : f x = .map (some b)) (hy : f y = key) (h : (Instr.mapEntry t (.map (some b)) key).run P w = .ok v w') : (execOp f o).run P w = .ok (.value v) w' := by
 unfold execOp
 rw [ho]
 dsimp only
 rw [hx, hy]
 simp [h, Result.andThen]
theorem run_estM {t : TypeId} {x y z : Operand} {b : Nat} {s u : Value} (ho : o.op = .entryStore t x y z) (hx : f x = .map (some b)) (hy : f y = s) (hz : f z = u) (h : (Instr.entryStore t (.map (some b)) s u).run P w = .ok () w') : (execOp f o).run P w = .ok .skip w' := by
 unfold execOp
 rw [ho]
 dsimp only
 rw [hx, hy, hz]
 simp [h, Result.andThen]
theorem wp_mkM {t : TypeId} (ho : o.op = .makeMap t none) (hk : K (a.put o.dst (.map (some w.heap.size))) (w.alloc (.map #[] 0))) : WpI P o a w K Q := by
 refine wp_ok (w' := w.alloc (.map #[] 0)) ?_ hk
 unfold execOp
 rw [ho]
 dsimp only
 simp only [Option.map_none, Instr.makeMap]
 go_simp
end
end Go.Proofs.YtdhblehhgpdpdacGreat
namespace Go.Proofs.YtdhblehhgpdpdacGreat
open Go.RowKit
theorem c_newN {P : Program} {Q : Exit → Act → World → Prop} {a : Act} {w : World} {y : Code} (T : Act → World → Prop) (h0 : T a w) (h : ∀ A W, T A W → CodI P y Q A W) : CodI P y Q a w := h _ _ h0
set_option maxRecDepth 10000 in
set_option maxHeartbeats 4000000 in
theorem topNoise_walk {w : World} (t : Tn) (mo : Option Addr) (mc : Nat) (L : List Li) (bad : Int) (ht : t.Ok) (hr : RdS inpF 14 w mo L) (hok : ∀ c, c ∈ L → LiOK w c) (_ : R64 bad) :
  Calls Tryz.prog 3 #[agV (ntnF t) 0 4, .slice mo L.length mc, .int .i64 bad] w fun e w' => e = .returned (.bool true) ∧ Below w.heap.size w w' := by
 refine enterF Tryz.func3 rfl 175 rfl (of_decide_eq_true rfl) (fun A hs hd hb => ?_)
 have b0 : A.eval (.tmp 0) = agV (ntnF t) 0 4 := hb 0 _ rfl
 have b1 : A.eval (.tmp 1) = .slice mo L.length mc := hb 1 _ rfl
 have b2 : A.eval (.tmp 2) = .int .i64 bad := hb 2 _ rfl
 clear hb
 have H := Cx.start w
 refine c_rs (m_start ?_)
 refine q_box H ?_
 clear H
 intro w1 H z1
 refine qa ?_
 refine l_nx ?_
 refine c_rs ?_
 refine qa ?_
 refine q_c2 (spotT_any bad 4 (by decide) (by decide) w1) ?_
 rintro e w2 ⟨b, hb4, rfl, rfl⟩
 refine ⟨_, rfl, ?_⟩
 refine qa ?_
 refine l_nx ?_
 obtain ⟨bd, ebd⟩ : ∃ bd : Int, bd = (b : Int) := ⟨_, rfl⟩
 have hbd : -1 ≤ bd ∧ bd < 4 := by omega
 rw [← ebd]
 refine c_rs ?_
 iterate 2 refine qa ?_
 have hsz := H.size
 refine q_c2 (one_any bd mo mc L _ (hr.below H.bel) (fun c hc => (hok c hc).below H.bel)) ?_
 rintro e w3 ⟨v3, rfl, G3⟩
 replace H := ownI_base (H.plus G3) hsz
 refine ⟨_, rfl, ?_⟩
 have hbr : R64 bd := by unfold R64; omega
 have hinO : InOK (oneM bd L 40) := oneM_in (by decide) hbd
 have hone : OneB bd (oneM bd L 40) := oneM_one
 have hokO : ∀ c, c ∈ oneM bd L 40 → LiOK w c := oneM_ok hok hbr
 have hOl : (oneM bd L 40).length ≤ 40 := by unfold oneM; rw [List.length_map, List.length_take]; omega
 have hbdO : ∀ c, c ∈ oneM bd L 40 → c.bad = bd := oneM_one
 obtain ⟨O, eO⟩ : ∃ O, O = oneM bd L 40 := ⟨_, rfl⟩
 rw [← eO] at H hinO hone hokO hOl hbdO
 have hrow : World.ownsRow _ _ _ _ _ _ _ := H.o0
 obtain ⟨m3, c3, rfl, hc3⟩ := rw_slice hrow
 refine qa ?_
 refine l_nx ?_
 refine c_rs ?_
 refine qa ?_
 refine l_nx ?_
 refine c_nx ?_
 refine c_rs ?_
 refine qa ?_
 refine l_nx ?_
 refine c_block ?_
 refine c_loop (fun r A W => ∃ (k : Nat) (v7 : Value) (MK : List Li), k ≤ O.length ∧ O.length - k ≤ r ∧ MK.length = k ∧ (∀ j d, MK[j]? = some d → ∃ c, O[j]? = some c ∧ d.rd = c.rd ∧ d.bad = bd ∧ d.LL = (kpK bd (j : Nat) c.LL c.LL.length).2 ∧ d.LL.length ≤ d.lc) ∧ A.tmps.size = 175 ∧ A.defers = [] ∧ A.eval (.tmp 1) = .slice m3 O.length c3 ∧ A.eval (.tmp 2) = .int .i64 bd ∧ A.eval (.tmp 3) = .pointer (some ⟨w.heap.size, 0, none⟩) ∧ A.eval (.tmp 7) = v7 ∧ A.eval (.tmp 8) = .int .i64 (k : Int) ∧
   Cx w W [ownI w.heap.size 31 14 v7 MK.length (rwS inpF 14 MK), listI (liesI w.heap.size) MK, ownI w.heap.size 31 14 (.slice m3 O.length c3) O.length (rwS inpF 14 O), vhI 23 w.heap.size 4 4 (ntnF t)]) O.length
  ⟨0, _, [], Nat.zero_le _, by omega, rfl, fun j d h => (by simp at h), (szL _ _).trans hs, (defL _ _).trans hd, Qv, Qv, Qv, Qv, Qv, ?_⟩ (fun r B W hI => ?_)
 ·exact (H.add (Below.refl _ _) (listI (liesI w.heap.size) []) (fun x hx => by cases hx) (fun j ⟨x, hx, _⟩ => by cases hx)).add (Below.refl _ _) (ownI w.heap.size 31 14 (.slice none 0 0) 0 []) (World.ownsRow_nil _ _ _ _) (fun j e => nomatch e)
 clear b0 b1 b2 hs hd H hrow
 obtain ⟨k, v7, MK, hk, hkr, hMl, hMr, hs, hd, b1, b2, b3, b7, b8, H⟩ := hI
 refine c_nx ?_
 refine c_rs (m_start ?_)
 iterate 4 refine qa ?_
 refine l_nx ?_
 refine q_if (fun h => ?_) (fun h => ?_)
 ·have kn : k < O.length := by have := of_decide_eq_true h; omega
  have hck := List.getElem?_eq_getElem kn
  obtain ⟨cc, ecc⟩ : ∃ cc, cc = O[k] := ⟨_, rfl⟩
  rw [← ecc] at hck
  have hccm : cc ∈ O := List.mem_of_getElem? hck
  have hcco := hokO cc hccm
  have hccb := hbdO cc hccm
  have hcl4 : cc.LL.length ≤ 400 := (hinO.2 cc hccm).2
  have hrow : World.ownsRow _ _ _ _ _ _ _ := H.o2
  obtain ⟨gO, capO, eg, _, hcell⟩ := rwS_rd hrow (by omega) (by decide)
  obtain ⟨rfl, rfl⟩ : m3 = some ⟨gO, 0, none⟩ ∧ c3 = capO := by cases eg; exact ⟨rfl, rfl⟩
  have hcell := hcell k cc hck
  refine c_fin ?_
  refine c_nx (c_block ?_)
  refine c_rs ?_
  iterate 2 refine qa ?_
  refine qg (run_ixSC _ _ _ _ rfl SlcK.out SizK.out Qv Qv rfl kn _) ?_
  refine qg (run_lodCs (g := inpF cc) ManyK.out hcell rfl Qv) ?_
  refine q_al H ?_
  intro w4 H4 z4
  refine q_sp0 H4 stP_whole (ipF_one _ _ _ _ _) ?_
  intro w5 H5 z5
  refine l_nx ?_
  refine c_rs ?_
  refine qa ?_
  refine q_st0 H5 (ipF_lies _ _ _ _) ?_
  intro w6 H6 z6
  clear H4 H5 H
  have H := H6
  clear H6
  refine l_nx ?_
  refine c_rs ?_
  refine m_do rfl (wanted_rd rfl) (fun K hK => ?_)
  refine wp_mkM rfl ?_
  refine hK _ _ ?_
  clear hK K
  replace H := H.add (al_below _ _) (m2I w6.heap.size 0 []) (M2.new w6) (fun j e => Nat.le_of_eq e.symm)
  refine qa ?_
  refine l_nx ?_
  have hrow : World.ownsRow _ _ _ _ _ _ _ := H.o4
  obtain ⟨gO', capO', eg', _, hcell⟩ := rwS_rd hrow (by omega) (by decide)
  obtain ⟨rfl, rfl⟩ : gO = gO' ∧ c3 = capO' := by cases eg'; exact ⟨rfl, rfl⟩
  have hcl := hcell k cc hck 13 (by omega)
  have hcl : _ = some (Value.slice cc.lo cc.LL.length cc.lc) := hcl
  refine c_nx ?_
  refine c_rs ?_
  iterate 2 refine qa ?_
  refine qg (run_ixSC _ _ _ _ rfl SlcK.out SizK.out Qv Qv rfl kn _) ?_
  refine qa ?_
  refine qg (run_lodX OneK.out hcl rfl Qv) ?_
  iterate 2 refine qa ?_
  refine l_nx ?_
  refine c_block ?_
  refine c_loop (fun r A W' => ∃ (q : Nat) (vl : Value), q ≤ cc.LL.length ∧ cc.LL.length - q ≤ r ∧ A.tmps.size = 175 ∧ A.defers = [] ∧ A.eval (.tmp 1) = .slice (some ⟨gO, 0, none⟩) O.length c3 ∧ A.eval (.tmp 2) = .int .i64 bd ∧ A.eval (.tmp 3) = .pointer (some ⟨w.heap.size, 0, none⟩) ∧ A.eval (.tmp 7) = v7 ∧ A.eval (.tmp 8) = .int .i64 (k : Int) ∧ A.eval (.tmp 9) = .pointer (some ⟨W.heap.size, 0, none⟩) ∧ A.eval (.tmp 10) = .map (some w6.heap.size) ∧ A.eval (.tmp 44) = .slice cc.lo cc.LL.length cc.lc ∧ A.eval (.tmp 45) = .int .i64 (cc.LL.length : Int) ∧ A.eval (.tmp 46) = .int .i64 (q : Int) ∧
    Cx w W' [m2I w6.heap.size q (kpK bd (k : Nat) cc.LL q).1, ownI w.heap.size 35 3 vl (kpK bd (k : Nat) cc.LL q).2.length (rwS ljF 3 (kpK bd (k : Nat) cc.LL q).2), vhI 31 W.heap.size 14 14 (ipF cc.rd cc.bad vl), ownI w.heap.size 31 14 v7 MK.length (rwS inpF 14 MK), listI (liesI w.heap.size) MK, ownI w.heap.size 31 14 (.slice (some ⟨gO, 0, none⟩) O.length c3) O.length (rwS inpF 14 O), vhI 23 w.heap.size 4 4 (ntnF t)]) cc.LL.length
   ⟨0, .slice none 0 0, Nat.zero_le _, by omega, (szL _ _).trans hs, (defL _ _).trans hd, Qv, Qv, Qv, Qv, Qv, Qv, Qv, Qv, Qv, Qv, ?_⟩ (fun r2 B2 W2 hI2 => ?_)
  ·exact (H.add (Below.refl _ _) (ownI w.heap.size 35 3 (.slice none 0 0) 0 []) (World.ownsRow_nil _ _ _ _) (fun j e => nomatch e)).b1
  clear b1 b2 b3 b7 b8 hs hd H hrow hcl hcell
  obtain ⟨q, vl, hq, hqr, hs, hd, b1, b2, b3, b7, b8, b9, b10, b44, b45, b46, H⟩ := hI2
  refine c_rs (m_start ?_)
  repeat first | refine qa ?_ | refine l_nx ?_ | refine c_nx ?_
  refine q_if (fun h => ?_) (fun h => ?_)
  ·have qn : q < cc.LL.length := by have := of_decide_eq_true h; omega
   have hqc := List.getElem?_eq_getElem qn
   obtain ⟨c, ec⟩ : ∃ c, c = cc.LL[q] := ⟨_, rfl⟩
   rw [← ec] at hqc
   have hcm : c ∈ cc.LL := List.mem_of_getElem? hqc
   obtain ⟨lb, lo, elo, hlc⟩ := hcco.jr.1 (by omega)
   have hlc := hlc q c hqc
   have hlb := hcco.jr.2 c hcm
   have hks := kpK_succ (bad := bd) (fr := (k : Nat)) hqc
   have hkl := kpK_len (bad := bd) (fr := (k : Nat)) (l := cc.LL) q
   rw [elo] at b44
   refine c_fin ?_
   refine c_nx (c_block ?_)
   refine c_rs ?_
   refine qg (run_ixSC _ _ _ _ rfl SlcK.out SizK.out Qv Qv rfl qn _) ?_
   refine qg (run_lodCs (g := ljF c) ManyK.out (fun j hj => at_below (hlc j hj) H.bel) rfl Qv) ?_
   refine q_al H ?_
   clear H
   intro w7 H z7
   refine q_sp0 H stP_whole (ljF_one c) ?_
   clear H
   intro w8 H z8
   refine l_nx ?_
   refine c_rs ?_
   refine qa ?_
   refine qg (run_lod1 _ _ rfl OneK.out Qv H.v0 (by omega) (show _ = Value.int .i64 c.y.ph from rfl)) ?_
   refine qa ?_
   refine qg (run_lod1 _ _ rfl OneK.out Qv H.v0 (by omega) (show _ = Value.int .i64 c.y.wo from rfl)) ?_
   refine qg (run_bldPr rfl Qv Qv _) ?_
   refine q_al H ?_
   clear H
   intro w9 H z9
   refine q_sp0 H stP_whole (prF_one _ _) ?_
   clear H
   intro w10 H z10
   refine l_nx ?_
   refine c_rs ?_
   refine qg (run_loadP _ _ rfl ManyK.out Qv H.v1 (by omega)) ?_
   iterate 2 refine qa ?_
   refine q_c3 (fits_any c bd (k : Int) _ ⟨hlb.1.below H.bel, hlb.2⟩) ?_
   rintro e w11 ⟨rfl, k11⟩
   replace H := H.call k11
   refine ⟨_, rfl, ?_⟩
   cases hf : fitL bd (k : Int) c.y with
   | false =>
    refine qa ?_
    iterate 4 refine q_skip ?_
    refine qg (run_pickF _ _ _ rfl Qv Qv _) ?_
    refine l_nx ?_
    refine q_no rfl (c_finB ?_)
    refine c_region ?_
    repeat refine qa ?_
    have e2 : kpK bd (k : Nat) cc.LL (q + 1) = kpK bd (k : Nat) cc.LL q := by rw [hks]; unfold kpS; rw [if_neg (fun h => by rw [hf] at h; cases h.1)]
    exact l_round ⟨cc.LL.length - (q + 1), by omega, q + 1, vl, by omega, by omega, (szL _ _).trans hs, (defL _ _).trans hd, Qv, Qv, Qv, Qv, Qv, Qv, Qv, Eq.trans Qv (by rw [elo]), Qv, Eq.trans Qv (by rw [Int.natCast_add]; rfl), by rw [e2]; exact H.tl.tl.wk (y := m2I w6.heap.size (q + 1) (kpK bd (k : Nat) cc.LL q).1) (fun h => M2.mono h (by omega)) (fun _ h => h)⟩
   | true =>
    obtain ⟨hph, hwo⟩ := fit_R hf
    iterate 2 refine qa ?_
    refine qg (run_loadP _ _ rfl ManyK.out Qv H.v0 (by omega)) ?_
    have hlk := M2.look H.o2 hph hwo
    by_cases hS : (c.y.ph, c.y.wo) ∈ (kpK bd (k : Nat) cc.LL q).1
    ·rw [if_pos hS] at hlk
     refine qg (run_lookM rfl Qv (Eq.trans Qv (prF_V _ _)) hlk) ?_
     refine qg (run_eqlI (b := false) _ _ rfl Qv (ev_const _ _) (by decide) _) ?_
     refine qg (run_pickT' _ _ _ rfl Qv Qv _) ?_
     refine l_nx ?_
     refine q_no rfl (c_finB ?_)
     refine c_region ?_
     repeat refine qa ?_
     have e2 : kpK bd (k : Nat) cc.LL (q + 1) = kpK bd (k : Nat) cc.LL q := by rw [hks]; unfold kpS; rw [if_neg (fun h => h.2 hS)]
     exact l_round ⟨cc.LL.length - (q + 1), by omega, q + 1, vl, by omega, by omega, (szL _ _).trans hs, (defL _ _).trans hd, Qv, Qv, Qv, Qv, Qv, Qv, Qv, Eq.trans Qv (by rw [elo]), Qv, Eq.trans Qv (by rw [Int.natCast_add]; rfl), by rw [e2]; exact H.tl.tl.wk (y := m2I w6.heap.size (q + 1) (kpK bd (k : Nat) cc.LL q).1) (fun h => M2.mono h (by omega)) (fun _ h => h)⟩
    ·rw [if_neg hS] at hlk
     refine qg (run_lookM rfl Qv (Eq.trans Qv (prF_V _ _)) hlk) ?_
     refine qg (run_eqlI (b := true) _ _ rfl Qv (ev_const _ _) (by decide) _) ?_
     refine qg (run_pickT' _ _ _ rfl Qv Qv _) ?_
     refine l_nx ?_
     refine q_yes rfl ?_
     refine c_nx ?_
     replace H := H.drew
     have hlk2 := M2.look H.o2 hph hwo
     rw [if_neg hS] at hlk2
     obtain ⟨v0, st, wa, wb, e1, e2, e3, ka, kb, za, zb, m'⟩ := M2.entry H.o2 hph hwo (by omega) hS
     have hkb : w8.heap.size ≠ w6.heap.size := fun e => (List.pairwise_cons.1 H.dis).1 (m2I w6.heap.size q (kpK bd (k : Nat) cc.LL q).1) (List.mem_cons_of_mem _ List.mem_cons_self) w8.heap.size rfl e
     have hS0 : Its [vhI 36 w8.heap.size 2 2 (prF c.y.ph c.y.wo)] w11.drew := Its.cons H.o0 (Its.nil _)
     have hSa : Its [vhI 36 w8.heap.size 2 2 (prF c.y.ph c.y.wo)] wa := Its.cons (Vh.kept H.v0 ka hkb) (Its.nil _)
     refine c_rj (S := Its [vhI 36 w8.heap.size 2 2 (prF c.y.ph c.y.wo)]) (.mv 0 (.rd 1 (.two 2 4 (.mv 3 (.go 4 (.mv 5 (.go 6 .fin)))) (.mv 5 (.go 2 (.mv 3 (.go 6 .fin))))))) [] (by kernel_rfl) (by kernel_rfl) ?_
     refine qj ?_
     refine Yr rfl hS0 (fun _ H => run_loadP _ _ rfl ManyK.out Qv H.v0 (by omega)) ?_
     refine sJ_cut (r := .go 6 .fin) (fun A W' => W' = wa ∧ A.tmps.size = 175 ∧ A.defers = [] ∧ A.eval (.tmp 1) = .slice (some ⟨gO, 0, none⟩) O.length c3 ∧ A.eval (.tmp 2) = .int .i64 bd ∧ A.eval (.tmp 3) = .pointer (some ⟨w.heap.size, 0, none⟩) ∧ A.eval (.tmp 7) = v7 ∧ A.eval (.tmp 8) = .int .i64 (k : Int) ∧ A.eval (.tmp 9) = .pointer (some ⟨W.heap.size, 0, none⟩) ∧ A.eval (.tmp 10) = .map (some w6.heap.size) ∧ A.eval (.tmp 44) = .slice (some ⟨lb, lo, none⟩) cc.LL.length cc.lc ∧ A.eval (.tmp 45) = .int .i64 (cc.LL.length : Int) ∧ A.eval (.tmp 46) = .int .i64 (q : Int) ∧ A.eval (.tmp 12) = .pointer (some ⟨W2.heap.size, 0, none⟩) ∧ A.eval (.tmp 65) = .map (some w6.heap.size) ∧ A.eval (.tmp 68) = .int .i64 1 ∧ A.eval (.tmp 70) = goInt st) (fun A W' hT => ?_) (fun hcut => ?_)
     ·obtain ⟨rfl, hs, hd, b1, b2, b3, b7, b8, b9, b10, b44, b45, b46, b12, b65, b68, b70⟩ := hT
      refine j_start ?_
      refine j_st rfl (wanted_rd rfl) (fun K hK => ?_)
      refine wp_skp (run_estM rfl Qv Qv Qv e3) rfl ?_
      replace H := H.p2 kb.os kb.tape kb.output kb.size (fun j h1 h2 => kb.block j h1 h2) (m2I w6.heap.size (q + 1) ((c.y.ph, c.y.wo) :: (kpK bd (k : Nat) cc.LL q).1)) m' (fun _ h => Or.inl h)
      refine hK _ (fun _ _ => Its.cons H.o0 (Its.nil _)) ?_
      clear hK K
      refine j_nx ?_
      refine c_region ?_
      refine qa ?_
      refine qg (run_lod1 _ _ rfl OneK.out Qv H.v4 (by omega) (show _ = vl from rfl)) ?_
      refine qg (run_loadP _ _ rfl ManyK.out Qv H.v1 (by omega)) ?_
      refine m_do rfl (wanted_rd rfl) (fun K hK => ?_)
      refine wp_oneG (f := ljF c) SlcK.out ManyK.out ZerK.out (by decide) (by decide) rfl Qv ?_
      intro w12 m12 k12 z12
      have hsz := H.size
      replace H := H.call k12
      refine hK _ _ ?_
      clear hK K
      refine q_ap3 (bytes := 40) H (rdc_own (rwS_own1 (B := w.heap.size) (F := ljF) (x := c) m12 (by omega))) (rwS_one (fun x _ => ljF_one x)) (by unfold maxLen; omega) (by omega) ?_
      clear H
      intro vl' w13 H
      have hv1 : vl'.oneCell' = true ∧ vl'.cells = #[vl'] := by
       have ho : World.ownsRow _ _ _ _ _ _ _ := H.o3
       obtain ⟨a, cp, rfl, _⟩ := rw_slice ho
       exact ⟨rfl, rfl⟩
      refine qa ?_
      refine q_st4 (g' := ipF cc.rd cc.bad vl') H (ipF_lies _ _ _ _) ?_ (h1 := hv1.1) (h2 := hv1.2)
      clear H
      intro w14 H z14
      refine l_finB ?_
      refine c_region ?_
      repeat refine qa ?_
      have e4 : kpK bd (k : Nat) cc.LL (q + 1) = ((c.y.ph, c.y.wo) :: (kpK bd (k : Nat) cc.LL q).1, (kpK bd (k : Nat) cc.LL q).2 ++ [c]) := by rw [hks]; unfold kpS; rw [if_pos ⟨hf, hS⟩]
      refine l_round ⟨cc.LL.length - (q + 1), by omega, q + 1, vl', by omega, by omega, (szL _ _).trans hs, (defL _ _).trans hd, Qv, Qv, Qv, Qv, Qv, Qv, Qv, Eq.trans Qv (by rw [elo]), Qv, Eq.trans Qv (by rw [Int.natCast_add]; rfl), ?_⟩
      rw [e4]
      dsimp only
      rw [List.length_append, rwS_app]
      exact H.tl.tl
     ·refine j_two ?_ ?_
      ·refine j_do rfl rfl (wanted_rd rfl) (fun K hK => ?_)
       refine wp_ok (run_lookM rfl Qv (Eq.trans Qv (prF_V _ _)) hlk2) ?_
       refine hK _ _ (fun _ h => h) ?_
       clear hK K
       refine qj ?_
       refine j_do rfl rfl (wanted_rd rfl) (fun K hK => ?_)
       refine wp_ok (run_entM rfl Qv (Eq.trans Qv (prF_V _ _)) e1) ?_
       refine hK _ _ (fun _ _ => hSa) ?_
       clear hK K
       refine qj ?_
       exact hcut _ _ ⟨rfl, (szL _ _).trans hs, (defL _ _).trans hd, Qv, Qv, Qv, Qv, Qv, Qv, Qv, Qv, Qv, Qv, Qv, Qv, Qv, Qv⟩
      ·refine j_do rfl rfl (wanted_rd rfl) (fun K hK => ?_)
       refine wp_ok (run_entM rfl Qv (Eq.trans Qv (prF_V _ _)) e1) ?_
       refine hK _ _ (fun _ _ => hSa) ?_
       clear hK K
       refine qj ?_
       refine j_do rfl rfl (wanted_rd rfl) (fun K hK => ?_)
       refine wp_ok (run_lookM rfl Qv (Eq.trans Qv (prF_V _ _)) e2) ?_
       refine hK _ _ (fun _ h => h) ?_
       clear hK K
       refine qj ?_
       exact hcut _ _ ⟨rfl, (szL _ _).trans hs, (defL _ _).trans hd, Qv, Qv, Qv, Qv, Qv, Qv, Qv, Qv, Qv, Qv, Qv, Qv, Qv, Qv⟩
  ·have eq : q = cc.LL.length := by have := of_decide_eq_false h; omega
   subst eq
   refine c_exit (x_out ?_)
   refine c_region ?_
   refine qa ?_
   refine qg (run_loadP _ _ rfl ManyK.out Qv H.v2 (by omega)) ?_
   have hlr : World.ownsRow _ _ _ _ _ _ _ := H.o1
   obtain ⟨lo', lc', rfl, hlc'⟩ := rw_slice hlr
   obtain ⟨nw, enw⟩ : ∃ nw : Li, nw = ⟨cc.rd, cc.bad, (kpK bd (k : Nat) cc.LL cc.LL.length).2, lo', lc'⟩ := ⟨_, rfl⟩
   have eF : inpF nw = ipF cc.rd cc.bad (.slice lo' (kpK bd (k : Nat) cc.LL cc.LL.length).2.length lc') := by rw [enw]; rfl
   refine m_do rfl (wanted_rd rfl) (fun K hK => ?_)
   refine wp_oneG (f := inpF nw) SlcK.out ManyK.out ZerK.out (by decide) (by decide) rfl (Eq.trans Qv (by rw [eF])) ?_
   intro w7 m7 k7 z7
   have hsz := H.size
   replace H := H.call k7
   refine hK _ _ ?_
   clear hK K
   refine q_ap3 (bytes := 128) H (rdc_own (rwS_own1 (B := w.heap.size) (F := inpF) (x := nw) m7 (by omega))) (rwS_one (fun x _ => ipF_one _ _ _ _ _)) (by unfold maxLen; omega) (by omega) ?_
   intro v8 w8 H8
   clear H
   have H := H8
   clear H8
   refine qa ?_
   refine l_finB ?_
   refine c_region ?_
   repeat refine qa ?_
   have hL : (ownI w.heap.size 35 3 (.slice lo' (kpK bd (k : Nat) cc.LL cc.LL.length).2.length lc') (kpK bd (k : Nat) cc.LL cc.LL.length).2.length (rwS ljF 3 (kpK bd (k : Nat) cc.LL cc.LL.length).2)) = liesI w.heap.size nw := by rw [enw]; rfl
   rw [hL] at H
   have H1 := (list_push (f := liesI w.heap.size) (y := nw) ((H.tl.sub (.cons_cons _ (.cons _ (List.Sublist.refl _)))).f2.f1)).f1
   refine l_round ⟨O.length - (k + 1), by omega, k + 1, v8, MK ++ [nw], by omega, by omega, by rw [List.length_append, hMl]; rfl, fun j d hj => ?_, (szL _ _).trans hs, (defL _ _).trans hd, Qv, Qv, Qv, Qv, Eq.trans Qv (by rw [Int.natCast_add]; rfl), ?_⟩
   ·by_cases e : j < MK.length
    ·rw [List.getElem?_append_left e] at hj
     exact hMr j d hj
    ·have hjl := (List.getElem?_eq_some_iff.1 hj).1
     rw [List.length_append] at hjl
     have hjk : j = k := by simp only [List.length_cons, List.length_nil] at hjl; omega
     rw [List.getElem?_append_right (by omega), show j - MK.length = 0 by omega] at hj
     have hj : nw = d := by simpa using hj
     rw [← hj, hjk, enw]
     exact ⟨cc, hck, rfl, hccb, rfl, hlc'⟩
   ·rw [List.length_append, rwS_app]
    exact H1
 have ek : k = O.length := by have := of_decide_eq_false h; omega
 refine c_exit (x_out ?_)
 have hr7 : World.ownsRow _ _ _ _ _ _ _ := H.o0
 obtain ⟨m7, c7, rfl, hc7⟩ := rw_slice hr7
 have hMin : InOK MK := ⟨by rw [hMl, ek]; exact hinO.1, fun d hd' => by
  obtain ⟨j, hj⟩ := List.mem_iff_getElem?.1 hd'
  obtain ⟨c, hc, e1, e2, e3, e4⟩ := hMr j d hj
  have hcm : c ∈ O := List.mem_of_getElem? hc
  refine ⟨by rw [e2]; exact hbd, ?_⟩
  rw [e3]
  exact Nat.le_trans (kpK_len _) (hinO.2 c hcm).2⟩
 have hMok : ∀ W', Cx w W' [listI (liesI w.heap.size) MK] → ∀ d, d ∈ MK → LiOK W' d := fun W' H' d hd' => by
  obtain ⟨j, hj⟩ := List.mem_iff_getElem?.1 hd'
  obtain ⟨c, hc, e1, e2, e3, e4⟩ := hMr j d hj
  have hco := hokO c (List.mem_of_getElem? hc)
  refine ⟨⟨fun s a => by show R64 (d.rd s a); rw [e1]; exact hco.ip.rd s a, by show R64 d.bad; rw [e2]; exact hbr, fun y hy => ?_⟩, ⟨ljrd_own (H'.o0 d hd'), fun c' hc' => ?_⟩, e4⟩
  ·obtain ⟨c', hc', rfl⟩ := List.mem_map.1 hy
   rw [e3] at hc'
   exact hco.ip.g c'.y (List.mem_map_of_mem (kpK_sub hc'))
  ·rw [e3] at hc'
   have := hco.jr.2 c' (kpK_sub hc')
   exact ⟨this.1.below H'.bel, this.2⟩
 refine c_rs ?_
 iterate 2 refine qa ?_
 have hrO : World.ownsRow _ _ _ _ _ _ _ := H.o2
 refine q_c2 (behind_any t m3 c3 O _ ht (rdS_own hrO (by decide)) (fun c hc => (hokO c hc).below H.bel) hinO) ?_
 rintro e w4 ⟨v1, v2, CL, RL, rfl, hCl, hRl, hC, hR, G4⟩
 replace H := H.plus G4
 refine ⟨_, rfl, ?_⟩
 refine qa ?_
 refine qg (run_ext3A _ rfl Qv _) ?_
 refine qg (run_ext3B _ rfl Qv _) ?_
 refine qg (run_ext3C _ rfl Qv _) ?_
 iterate 3 refine qa ?_
 refine l_nx ?_
 refine c_rs ?_
 iterate 2 refine qa ?_
 have hr7' : World.ownsRow _ _ _ _ _ _ _ := H.o4
 refine q_c2 (behind_any t m7 c7 MK _ ht (rdS_own hr7' (by decide)) (hMok _ (H.sub (.cons _ (.cons _ (.cons _ (.cons _ (.cons _ (.cons_cons _ (List.nil_sublist _))))))))) hMin) ?_
 rintro e w4b ⟨v3, v4, CL2, RL2, rfl, hCl2, hRl2, hC2, hR2, G5⟩
 replace H := H.plus G5
 refine ⟨_, rfl, ?_⟩
 refine qa ?_
 refine qg (run_ext3A _ rfl Qv _) ?_
 refine qg (run_ext3B _ rfl Qv _) ?_
 refine qg (run_ext3C _ rfl Qv _) ?_
 iterate 3 refine qa ?_
 refine l_nx ?_
 refine c_nx ?_
 refine c_rs ?_
 refine q_c0 (alive_any w4b) ?_
 rintro e w5 ⟨rfl, k5⟩
 refine ⟨_, rfl, ?_⟩
 replace H := H.call k5
 iterate 4 refine qa ?_
 refine qg (run_pickF _ _ _ rfl Qv Qv _) ?_
 iterate 3 refine qa ?_
 refine qg (run_pickF _ _ _ rfl Qv Qv _) ?_
 refine l_nx ?_
 refine q_no rfl (c_fin ?_)
 have F := H
 have hcr2 : World.ownsRow _ _ _ _ _ _ _ := F.o0
 obtain ⟨d1, p1, rfl, hp1⟩ := rw_slice hcr2
 have hrr2 : World.ownsRow _ _ _ _ _ _ _ := F.o2
 obtain ⟨d2, p2, rfl, hp2⟩ := rw_slice hrr2
 have hcr : World.ownsRow _ _ _ _ _ _ _ := F.o4
 obtain ⟨c1, q1, rfl, hq1⟩ := rw_slice hcr
 have hrr : World.ownsRow _ _ _ _ _ _ _ := F.o6
 obtain ⟨c2, q2, rfl, hq2⟩ := rw_slice hrr
 have hns := run_noise (t := t) hinO hMin hone (by omega) (fun j c d hc hd' => by
  obtain ⟨c', hc', e1, e2, e3, _⟩ := hMr j d hd'
  rw [hc] at hc'
  cases hc'
  refine ⟨e1, e2, ?_⟩
  show d.LL.map Lj.y = _
  rw [e3]
  exact kp_all c.LL)
 have hMone : OneB bd MK := fun d hd' => by
  obtain ⟨j, hj⟩ := List.mem_iff_getElem?.1 hd'
  obtain ⟨c, hc, e1, e2, e3, e4⟩ := hMr j d hj
  exact e2
 have lens : CL2.length = CL.length ∧ RL.length = CL.length ∧ RL2.length = CL.length ∧ CL.length = O.length ∧ CL.length ≤ 40 := by omega
 obtain ⟨l1, l2, l3, l4, l5⟩ := lens
 replace H := Cx.start w5
 refine c_newN (fun A W => A.tmps.size = 175 ∧ A.defers = [] ∧ A.eval (.tmp 14) = .slice c1 CL.length q1 ∧ A.eval (.tmp 15) = .slice c2 RL.length q2 ∧ A.eval (.tmp 17) = .slice d1 CL2.length p1 ∧ A.eval (.tmp 18) = .slice d2 RL2.length p2 ∧ Cx w5 W [])
  ⟨(szL _ _).trans hs, (defL _ _).trans hd, Qv, Qv, Qv, Qv, H⟩ (fun A W0 hT => ?_)
 clear b1 b2 b3 b7 b8 hs hd H
 obtain ⟨hs, hd, b14, b15, b17, b18, H⟩ := hT
 refine c_nx ?_
 refine c_rs (m_start ?_)
 iterate 3 refine qa ?_
 refine l_nx ?_
 refine c_block ?_
 refine c_loop (fun r A W => ∃ k : Nat, k ≤ CL.length ∧ CL.length - k ≤ r ∧ A.tmps.size = 175 ∧ A.defers = [] ∧ A.eval (.tmp 14) = .slice c1 CL.length q1 ∧ A.eval (.tmp 15) = .slice c2 RL.length q2 ∧ A.eval (.tmp 17) = .slice d1 CL2.length p1 ∧ A.eval (.tmp 18) = .slice d2 RL2.length p2 ∧ A.eval (.tmp 107) = .int .i64 (CL.length : Int) ∧ A.eval (.tmp 108) = .int .i64 (k : Int) ∧ Cx w5 W []) CL.length
  ⟨0, Nat.zero_le _, by omega, (szL _ _).trans hs, (defL _ _).trans hd, Qv, Qv, Qv, Qv, Qv, Qv, H⟩ (fun r B W1 hI => ?_)
 clear b14 b15 b17 b18 hs hd H
 obtain ⟨k, hk, hkr, hs, hd, b14, b15, b17, b18, b107, b108, H⟩ := hI
 refine c_rs (m_start ?_)
 repeat first | refine qa ?_ | refine l_nx ?_ | refine c_nx ?_
 refine q_if (fun h => ?_) (fun h => ?_)
 ·have kc : k < CL.length := by have := of_decide_eq_true h; omega
  have kc2 : k < CL2.length := by omega
  have kr : k < RL.length := by omega
  have kr2 : k < RL2.length := by omega
  have kl : k < O.length := by omega
  have km : k < MK.length := by omega
  obtain ⟨cc, hcc⟩ : ∃ cc, O[k]? = some cc := ⟨_, List.getElem?_eq_getElem kl⟩
  obtain ⟨dd, hdd⟩ : ∃ dd, MK[k]? = some dd := ⟨_, List.getElem?_eq_getElem km⟩
  obtain ⟨d, hcd⟩ : ∃ d, CL[k]? = some d := ⟨_, List.getElem?_eq_getElem kc⟩
  obtain ⟨d', hcd'⟩ : ∃ d, CL2[k]? = some d := ⟨_, List.getElem?_eq_getElem kc2⟩
  obtain ⟨u, hre⟩ : ∃ u, RL[k]? = some u := ⟨_, List.getElem?_eq_getElem kr⟩
  obtain ⟨u', hre'⟩ : ∃ u, RL2[k]? = some u := ⟨_, List.getElem?_eq_getElem kr2⟩
  have hdin : d ∈ CL := List.mem_of_getElem? hcd
  have hdin' : d' ∈ CL2 := List.mem_of_getElem? hcd'
  have hum : u ∈ RL := List.mem_of_getElem? hre
  have hum' : u' ∈ RL2 := List.mem_of_getElem? hre'
  have hu := hR k u cc hre hcc
  have hu' := hR2 k u' dd hre' hdd
  have hnd := (hns (k + 1) (by omega)).2
  have euu : u'.1 = u.1 := by
   rw [hu, hu', frR_nds hMin hMone hdd, frR_nds hinO hone hcc]
   refine List.map_congr_left fun i hi => ?_
   unfold gdL at hi
   exact hnd i (List.mem_range.1 (List.mem_filter.1 hi).1)
  have edd : ∀ i, i < 4 → (d'.2 i).1 = (d.2 i).1 := fun i hi => by rw [(hC2 k d' hcd').2 i hi, (hC k d hcd).2 i hi, hnd i hi]
  obtain ⟨g, cap, eg, _, hcellC⟩ := rwS_rd hcr (by omega) (by decide)
  obtain ⟨rfl, rfl⟩ : c1 = some ⟨g, 0, none⟩ ∧ q1 = cap := by cases eg; exact ⟨rfl, rfl⟩
  have hcellC := hcellC k d hcd
  obtain ⟨g', cap', eg', _, hcellD⟩ := rwS_rd hcr2 (by omega) (by decide)
  obtain ⟨rfl, rfl⟩ : d1 = some ⟨g', 0, none⟩ ∧ p1 = cap' := by cases eg'; exact ⟨rfl, rfl⟩
  have hcellD := hcellD k d' hcd'
  obtain ⟨g2, cap2, eg2, _, hcell2⟩ := rwS_rd hrr (by omega) (by decide)
  obtain ⟨rfl, rfl⟩ : c2 = some ⟨g2, 0, none⟩ ∧ q2 = cap2 := by cases eg2; exact ⟨rfl, rfl⟩
  have hlod : w5.cell? ⟨g2, 0 + k * 1, none⟩ = some (.slice u.2.1 u.1.length u.2.2) := hcell2 k u hre 0 (by omega)
  obtain ⟨g4, cap4, eg4, _, hcell4⟩ := rwS_rd hrr2 (by omega) (by decide)
  obtain ⟨rfl, rfl⟩ : d2 = some ⟨g4, 0, none⟩ ∧ p2 = cap4 := by cases eg4; exact ⟨rfl, rfl⟩
  have hlod' : w5.cell? ⟨g4, 0 + k * 1, none⟩ = some (.slice u'.2.1 u.1.length u'.2.2) := by
   have := hcell4 k u' hre' 0 (by omega)
   rw [← euu]
   exact this
  have hnC : ∀ i, i < 4 → ∀ q, q < 74 → w5.cell? ⟨g, 0 + k * 297 + 1 + i * 74 + q, none⟩ = some (ndF (d.2 i).1 (slV (d.2 i).2 (d.2 i).1.vA.length) q) := fun i hi q hq => by
   rw [show 0 + k * 297 + 1 + i * 74 + q = 0 + k * 297 + (0 + 1 + i * 74 + q) by omega, hcellC _ (by omega), clH_at d hq]
  have hnD : ∀ i, i < 4 → ∀ q, q < 74 → w5.cell? ⟨g', 0 + k * 297 + 1 + i * 74 + q, none⟩ = some (ndF (d'.2 i).1 (slV (d'.2 i).2 (d'.2 i).1.vA.length) q) := fun i hi q hq => by
   rw [show 0 + k * 297 + 1 + i * 74 + q = 0 + k * 297 + (0 + 1 + i * 74 + q) by omega, hcellD _ (by omega), clH_at d' hq]
  have hvl : ∀ i, i < 4 → (d.2 i).1.vA.length ≤ 140737488351232 := fun i hi => by
   rw [(hC k d hcd).2 i hi]
   exact ((cK_cls ht (fun c hc => (hokO c hc).ip) (k + 1)).2 i hi).vA
  refine c_fin ?_
  refine c_nx (c_block ?_)
  refine c_rs ?_
  iterate 2 refine qa ?_
  refine l_nx ?_
  refine c_nx ?_
  refine c_rs ?_
  refine qa ?_
  refine l_nx ?_
  refine c_block ?_
  refine c_loop (fun r A W' => ∃ i : Nat, i ≤ 4 ∧ 4 - i ≤ r ∧ A.tmps.size = 175 ∧ A.defers = [] ∧ A.eval (.tmp 14) = .slice (some ⟨g, 0, none⟩) CL.length q1 ∧ A.eval (.tmp 15) = .slice (some ⟨g2, 0, none⟩) RL.length q2 ∧ A.eval (.tmp 17) = .slice (some ⟨g', 0, none⟩) CL2.length p1 ∧ A.eval (.tmp 18) = .slice (some ⟨g4, 0, none⟩) RL2.length p2 ∧ A.eval (.tmp 20) = .int .i64 (k : Int) ∧ A.eval (.tmp 107) = .int .i64 (CL.length : Int) ∧ A.eval (.tmp 108) = .int .i64 (k : Int) ∧ A.eval (.tmp 21) = .int .i64 (i : Int) ∧ Cx w5 W' []) 4
   ⟨0, Nat.zero_le _, by omega, (szL _ _).trans hs, (defL _ _).trans hd, Qv, Qv, Qv, Qv, Qv, Qv, Qv, Qv, H⟩ (fun r2 B2 W2 hI2 => ?_)
  clear b14 b15 b17 b18 b107 b108 hs hd H
  obtain ⟨i, hi, hir, hs, hd, b14, b15, b17, b18, b20, b107, b108, b21, H⟩ := hI2
  refine c_nx ?_
  refine c_rs (m_start ?_)
  iterate 2 refine qa ?_
  refine l_nx ?_
  refine q_if (fun h => ?_) (fun h => ?_)
  ·have i4 : i < 4 := by have := of_decide_eq_true h; omega
   have hnC := hnC i i4
   have hnD := hnD i i4
   have hdiC : ∀ q, q < 12 → w5.cell? ⟨g, 0 + k * 297 + 1 + i * 74 + 39 + q, none⟩ = some (iV ((d.2 i).1.di (q / 3) (q % 3))) := fun q hq => by
    rw [show 0 + k * 297 + 1 + i * 74 + 39 + q = 0 + k * 297 + 1 + i * 74 + (0 + 39 + q) by omega, hnC _ (by omega), nd_di _ _ q hq]
    rfl
   have hdiD : ∀ q, q < 12 → w5.cell? ⟨g', 0 + k * 297 + 1 + i * 74 + 39 + q, none⟩ = some (iV ((d.2 i).1.di (q / 3) (q % 3))) := fun q hq => by
    rw [show 0 + k * 297 + 1 + i * 74 + 39 + q = 0 + k * 297 + 1 + i * 74 + (0 + 39 + q) by omega, hnD _ (by omega), nd_di _ _ q hq, edd i i4]
    rfl
   refine c_fin ?_
   refine c_nx (c_block ?_)
   refine c_nx ?_
   replace H := H.drew
   have hS : (fun W' => Below w5.heap.size w5 W') W2.drew := H.bel
   refine c_rj (S := fun W' => Below w5.heap.size w5 W') (.mv 0 (.mv 1 (.mv 2 (.mv 3 (.mv 4 (.mv 5 (.rd 6 (.mv 7 (.mv 8 (.mv 9 (.mv 10 (.mv 11 (.mv 12 (.rd 13 (.go 14 (.mv 15 (.mv 16 (.mv 17 (.mv 18 (.mv 19 (.mv 20 (.mv 21 (.mv 22 (.mv 23 (.rd 24 (.mv 25 (.mv 26 (.mv 27 (.mv 28 (.mv 29 (.mv 30 (.mv 31 (.rd 32 (.mv 33 (.mv 34 .fin))))))))))))))))))))))))))))))))))) [] (by kernel_rfl) (by kernel_rfl) ?_
   iterate 3 refine qj ?_
   refine j_mv rfl rfl (fun _ _ _ h => h) (wanted_rd rfl) (fun w => run_ixSC _ _ _ _ rfl SlcK.out SizK.out Qv Qv rfl kc w) ?_
   iterate 2 refine qj ?_
   refine Yr rfl hS (fun _ H => run_lodCs (g := ndF (d.2 i).1 (slV (d.2 i).2 (d.2 i).1.vA.length)) ManyK.out (fun q hq => at_below (hnC q hq) H) rfl Qv) ?_
   iterate 3 refine qj ?_
   refine j_mv rfl rfl (fun _ _ _ h => h) (wanted_rd rfl) (fun w => run_ixSC _ _ _ _ rfl SlcK.out SizK.out Qv Qv rfl kc2 w) ?_
   iterate 2 refine qj ?_
   refine Yr rfl hS (fun _ H => run_lodCs (g := ndF (d'.2 i).1 (slV (d'.2 i).2 (d'.2 i).1.vA.length)) ManyK.out (fun q hq => at_below (hnD q hq) H) rfl Qv) ?_
   refine j_do rfl rfl (wanted_rd rfl) (fun K hK => ?_)
   refine wp_call2 _ 13 _ _ _ rfl Qv Qv (EntK.out _ _) (twins_any (d.2 i).1 (d'.2 i).1 (d.2 i).2 (d'.2 i).2 _ (by rw [edd i i4]; exact ⟨fun _ _ => rfl, RlE.refl _, fun _ _ _ _ => rfl, fun _ _ => rfl, rfl, rfl, rfl, rfl, rfl⟩) ((agRd_of (F.o5 d hdin i i4)).below H.bel) ((agRd_of (F.o1 d' hdin' i i4)).below H.bel) (hvl i i4)) ?_
   rintro e w8 ⟨rfl, k8⟩
   replace H := H.call k8
   refine ⟨_, rfl, hK _ _ (fun _ h => h.trans (k8.mono h.size)) ?_⟩
   clear hK K
   have hS : (fun W' => Below w5.heap.size w5 W') w8 := H.bel
   iterate 5 refine qj ?_
   refine j_mv rfl rfl (fun _ _ _ h => h) (wanted_g rfl rfl rfl Qv) (fun w => run_ixSC _ _ _ _ rfl SlcK.out SizK.out Qv Qv rfl kc w) ?_
   iterate 3 refine qj ?_
   refine j_rd rfl rfl (fun _ _ _ h => h) (wanted_g rfl rfl rfl Qv) hS (fun _ H => run_lodCs (g := fun q => iV ((d.2 i).1.di (q / 3) (q % 3))) ManyK.out (fun q hq => at_below (hdiC q hq) H) rfl Qv) ?_
   iterate 3 refine qj ?_
   refine j_mv rfl rfl (fun _ _ _ h => h) (wanted_g rfl rfl rfl Qv) (fun w => run_ixSC _ _ _ _ rfl SlcK.out SizK.out Qv Qv rfl kc2 w) ?_
   iterate 3 refine qj ?_
   refine j_rd rfl rfl (fun _ _ _ h => h) (wanted_g rfl rfl rfl Qv) hS (fun _ H => run_lodCs (g := fun q => iV ((d.2 i).1.di (q / 3) (q % 3))) ManyK.out (fun q hq => at_below (hdiD q hq) H) rfl Qv) ?_
   refine j_mv rfl rfl (fun _ _ _ h => h) (wanted_g rfl rfl rfl Qv) (fun w => run_neq43N (g := (d.2 i).1.di) _ _ rfl Qv Qv w) ?_
   refine j_mv rfl rfl (fun _ _ _ h => h) (wanted_rd rfl) (fun w => run_pickF _ _ _ rfl Qv Qv w) ?_
   refine j_nx ?_
   refine q_no rfl (c_finB ?_)
   refine c_region ?_
   repeat refine qa ?_
   exact l_round ⟨4 - (i + 1), by omega, i + 1, by omega, by omega, (szL _ _).trans hs, (defL _ _).trans hd, Qv, Qv, Qv, Qv, Qv, Qv, Qv, Eq.trans Qv (by rw [Int.natCast_add]; rfl), H⟩
  ·refine c_exit (x_out ?_)
   refine c_rs ?_
   iterate 2 refine qa ?_
   refine qg (run_ixSC _ _ _ _ rfl SlcK.out SizK.out Qv Qv rfl kr _) ?_
   refine qg (run_lodX OneK.out (at_below hlod H.bel) rfl Qv) ?_
   iterate 2 refine qa ?_
   refine l_nx ?_
   refine c_block ?_
   refine c_loop (fun r A W' => ∃ j : Nat, j ≤ u.1.length ∧ u.1.length - j ≤ r ∧ A.tmps.size = 175 ∧ A.defers = [] ∧ A.eval (.tmp 14) = .slice (some ⟨g, 0, none⟩) CL.length q1 ∧ A.eval (.tmp 15) = .slice (some ⟨g2, 0, none⟩) RL.length q2 ∧ A.eval (.tmp 17) = .slice (some ⟨g', 0, none⟩) CL2.length p1 ∧ A.eval (.tmp 18) = .slice (some ⟨g4, 0, none⟩) RL2.length p2 ∧ A.eval (.tmp 20) = .int .i64 (k : Int) ∧ A.eval (.tmp 107) = .int .i64 (CL.length : Int) ∧ A.eval (.tmp 108) = .int .i64 (k : Int) ∧ A.eval (.tmp 154) = .int .i64 (u.1.length : Int) ∧ A.eval (.tmp 155) = .int .i64 (j : Int) ∧ Cx w5 W' []) u.1.length
    ⟨0, Nat.zero_le _, by omega, (szL _ _).trans hs, (defL _ _).trans hd, Qv, Qv, Qv, Qv, Qv, Qv, Qv, Qv, Qv, H⟩ (fun r3 B3 W3 hI3 => ?_)
   clear b14 b15 b17 b18 b20 b107 b108 b21 hs hd H
   obtain ⟨j, hj, hjr, hs, hd, b14, b15, b17, b18, b20, b107, b108, b154, b155, H⟩ := hI3
   refine c_rs (m_start ?_)
   repeat first | refine qa ?_ | refine l_nx ?_ | refine c_nx ?_
   refine q_if (fun h => ?_) (fun h => ?_)
   ·have jn : j < u.1.length := by have := of_decide_eq_true h; omega
    have jn' : j < u'.1.length := by rw [euu]; exact jn
    have hul : u.1.length ≤ 4 := by rcases run_len hinO hone hcc hbd hu with ⟨_, e⟩ | ⟨_, e⟩ <;> omega
    obtain ⟨nd, hjn⟩ : ∃ nd, u.1[j]? = some nd := ⟨_, List.getElem?_eq_getElem jn⟩
    have hjn' : u'.1[j]? = some nd := by rw [euu]; exact hjn
    have hur : World.ownsRow _ _ _ _ _ _ _ := F.o7 u hum
    obtain ⟨g3, cap3, eg3, _, hcell3⟩ := rwS_rd hur (by omega) (by decide)
    have eg3' : u.2.1 = some ⟨g3, 0, none⟩ := by unfold slV at eg3; cases eg3' : u.2.1 with | none => rw [eg3'] at eg3; cases eg3 | some z => rw [eg3'] at eg3; cases eg3; rfl
    have hur' : World.ownsRow _ _ _ _ _ _ _ := F.o3 u' hum'
    obtain ⟨g5, cap5, eg5, _, hcell5⟩ := rwS_rd hur' (by omega) (by decide)
    have eg5' : u'.2.1 = some ⟨g5, 0, none⟩ := by unfold slV at eg5; cases eg5' : u'.2.1 with | none => rw [eg5'] at eg5; cases eg5 | some z => rw [eg5'] at eg5; cases eg5; rfl
    have hl3 : w5.cell? ⟨g2, 0 + k * 1, none⟩ = some (.slice (some ⟨g3, 0, none⟩) u.1.length u.2.2) := by rw [hlod, eg3']
    have hl5 : w5.cell? ⟨g4, 0 + k * 1, none⟩ = some (.slice (some ⟨g5, 0, none⟩) u.1.length u'.2.2) := by rw [hlod', eg5']
    have hcj := hcell3 j nd hjn
    have hcj' := hcell5 j nd hjn'
    refine c_fin ?_
    refine c_nx (c_block ?_)
    refine c_rs ?_
    iterate 2 refine qa ?_
    refine l_nx ?_
    refine c_nx ?_
    replace H := H.drew
    have hS : (fun W' => Below w5.heap.size w5 W') W3.drew := H.bel
    refine c_rj (S := fun W' => Below w5.heap.size w5 W') (.mv 0 (.mv 1 (.mv 2 (.rd 3 (.mv 4 (.mv 5 (.rd 6 (.mv 7 (.mv 8 (.mv 9 (.rd 10 (.mv 11 (.mv 12 (.rd 13 (.mv 14 .fin))))))))))))))) [] (by kernel_rfl) (by kernel_rfl) ?_
    iterate 2 refine qj ?_
    refine j_mv rfl rfl (fun _ _ _ h => h) (wanted_rd rfl) (fun w => run_ixSC _ _ _ _ rfl SlcK.out SizK.out Qv Qv rfl kr w) ?_
    refine Yr rfl hS (fun _ H => run_lodX OneK.out (at_below hl3 H) rfl Qv) ?_
    refine qj ?_
    refine j_mv rfl rfl (fun _ _ _ h => h) (wanted_rd rfl) (fun w => run_ixSC _ _ _ _ rfl SlcK.out SizK.out Qv Qv rfl jn w) ?_
    refine Yr rfl hS (fun _ H => run_lodCs (g := rpF nd) ManyK.out (fun q hq => at_below (hcj q hq) H) rfl Qv) ?_
    iterate 2 refine qj ?_
    refine j_mv rfl rfl (fun _ _ _ h => h) (wanted_rd rfl) (fun w => run_ixSC _ _ _ _ rfl SlcK.out SizK.out Qv Qv rfl kr2 w) ?_
    refine Yr rfl hS (fun _ H => run_lodX OneK.out (at_below hl5 H) rfl Qv) ?_
    refine qj ?_
    refine j_mv rfl rfl (fun _ _ _ h => h) (wanted_rd rfl) (fun w => run_ixSC _ _ _ _ rfl SlcK.out SizK.out Qv Qv rfl jn w) ?_
    refine Yr rfl hS (fun _ H => run_lodCs (g := rpF nd) ManyK.out (fun q hq => at_below (hcj' q hq) H) rfl Qv) ?_
    refine j_mv rfl rfl (fun _ _ _ h => h) (wanted_rd rfl) (fun w => run_neqRpN (n := nd) _ _ rfl Qv Qv w) ?_
    refine j_nx ?_
    refine q_no rfl (c_finB ?_)
    refine c_region ?_
    repeat refine qa ?_
    exact l_round ⟨u.1.length - (j + 1), by omega, j + 1, by omega, by omega, (szL _ _).trans hs, (defL _ _).trans hd, Qv, Qv, Qv, Qv, Qv, Qv, Qv, Qv, Eq.trans Qv (by rw [Int.natCast_add]; rfl), H⟩
   ·refine c_exit (x_out2 ?_)
    refine c_region ?_
    repeat refine qa ?_
    exact l_round ⟨CL.length - (k + 1), by omega, k + 1, by omega, by omega, (szL _ _).trans hs, (defL _ _).trans hd, Qv, Qv, Qv, Qv, Qv, Eq.trans Qv (by rw [Int.natCast_add]; rfl), H⟩
 ·refine c_exit (x_out ?_)
  refine c_rs ?_
  repeat first | refine qa ?_ | refine l_nx ?_
  exact c_ret (ret_of ((defL _ _).trans hd) (res_t rfl Qv) ⟨rfl, F.bel.trans (H.bel.mono F.size)⟩)
end Go.Proofs.YtdhblehhgpdpdacGreat
