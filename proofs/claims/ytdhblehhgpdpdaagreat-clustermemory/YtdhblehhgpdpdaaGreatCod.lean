import Derived.Test.YtdhblehhgpdpdaaGreatNear94
import Derived.Deep.LoopGhost
namespace Go.Proofs.YtdhblehhgpdpdaaGreat
open Go.RowKit
section
variable {P : Program} {Q : Exit → Act → World → Prop} {a : Act} {w : World}
theorem enterF {f : FuncId} {fn : Func} {c : Code} {args : Array Value} {R : Ending → World → Prop} (hf : P.funcs[f]? = some fn) (hb : fn.body = some c) (n : Nat) (hn : fn.ntmps = n) (hl : args.size ≤ n)
  (h : ∀ A : Act, A.tmps.size = n → A.defers = [] → (∀ k v, args[k]? = some v → A.eval (.tmp k) = v) → CodI P c (bodyPost P fn R) A w) : Calls P f args w R := by
 refine calls_of_wp hf hb (h _ ?_ rfl ?_).out
 ·show (args ++ Array.replicate (fn.ntmps - args.size) undef).size = n
  rw [Array.size_append, Array.size_replicate, hn]; omega
 ·intro k v hk
  show (args ++ Array.replicate (fn.ntmps - args.size) undef).getD k undef = v
  have hlt := (Array.getElem?_eq_some_iff.1 hk).1
  rw [Array.getD_eq_getD_getElem?, Array.getElem?_append_left hlt, hk]
  rfl
def Nx (P : Program) (y : Code) (Q : Exit → Act → World → Prop) : Exit → Act → World → Prop := Exit.then (fun a' w' => CodI P y Q a' w') Q
theorem c_nx {x y : Code} (h : CodI P x (Nx P y Q) a w) : CodI P (.seq x y) Q a w :=
 ⟨wp_seq (Code.wp_mono (fun e a' w' q => by
  cases e with
  | normal => exact (show CodI P y Q a' w' from q).out
  | exit id => exact q
  | goto l => exact q
  | ret => exact q
  | panic ch => exact q
  | outgrown => exact q) h.out)⟩
theorem c_rs {id : Nat} {l : List Oper} {y : Code} (h : LstI P l.toArray (Nx P y Q) l a w) : CodI P (.seq (.region id l.toArray false) y) Q a w := c_nx (c_region h)
theorem l_nx {ops : Array Oper} {y : Code} (h : CodI P y Q a w) : LstI P ops (Nx P y Q) [] a w := ⟨wpList_nil h⟩
theorem c_fin {y : Code} (h : CodI P y Q a w) : CodI P .skip (Nx P y Q) a w := c_skip h
theorem c_rj {id : Nat} {ops : Array Oper} {S : World → Prop} (l : PlanJ) (lt : List Nat) (hm : P.follows .mixedOrders = true)
  (hb : (Region.noSelect ops && lt.all (fun j => decide (j < ops.size)) && decide (l.len = ops.size) && planJ .any ops (lateOf lt) l (Array.replicate ops.size false)) = true)
  (h : SeqJ P ops Q S (lateOf lt) l a w.drew) : CodI P (.region id ops true) Q a w := ⟨region_J l lt hm hb h⟩
theorem j_nx {ops : Array Oper} {S : World → Prop} {late : Nat → Bool} {y : Code} (h : CodI P y Q a w) : SeqJ P ops (Nx P y Q) S late .fin a w := sJ_end h
theorem c_ret (h : Q .ret a w) : CodI P .ret Q a w := ⟨wp_ret h⟩
theorem c_exit {id : Nat} (h : Q (.exit id) a w) : CodI P (.exit id) Q a w := ⟨wp_exit h⟩
theorem c_block {id : Nat} {c : Code} (h : CodI P c (Exit.inBlock id Q) a w) : CodI P (.block id c) Q a w := ⟨wp_block h.out⟩
theorem c_loop {c : Code} (I : Nat → Act → World → Prop) (n₀ : Nat) (h₀ : I n₀ a w) (round : ∀ n a w, I n a w → CodI P c (Exit.then (fun a' w' => ∃ n', n' < n ∧ I n' a' w') Q) a w) : CodI P (.loop c) Q a w :=
 ⟨wp_loop_ghost I n₀ h₀ fun n a w h => (round n a w h).out⟩
theorem c_cond {c : Operand} {x y : Code} {t : Bool} (hc : a.eval c = .bool t) (h1 : t = true → CodI P x Q a w) (h2 : t = false → CodI P y Q a w) : CodI P (.cond c x y) Q a w := by
 cases t
 ·exact c_false hc (h2 rfl)
 ·exact c_true hc (h1 rfl)
theorem ret_of {fn : Func} {R : Ending → World → Prop} {v : Value} (hd : a.defers = []) (hr : (results fn a.tmps).run P w = .ok v w) (h : R (.returned v) w) : bodyPost P fn R .ret a w := ⟨hd, v, hr, h⟩
theorem getD_ev {k : Nat} {v : Value} (h : a.eval (.tmp k) = v) : a.tmps.getD k undef = v := h
theorem run_cellR {ty : TypeId} {b n N cap : Nat} {t : TypeId} {g : Nat → Value} (T : Many P ty n) (hm : Vh t w b N cap g) (hn : n ≤ N) : (loadVar ty ⟨b, 0, none⟩).run P w = .ok (agV g 0 n) w := by
 have hl : (loadCells ⟨b, 0, none⟩ n).run P w = .ok ((List.range n).map fun j => g (0 + j)).toArray w :=
  run_loadCells w ⟨b, 0, none⟩ n (fun j => g (0 + j)) (fun j hj => by rw [add_at, Nat.zero_add]; exact hm.cell (by omega))
 simp only [loadVar, Sem.run_bind, T.agg, T.size, hl, Result.andThen_ok, if_true]
 rfl
theorem res_t {fn : Func} {p : Nat} {v : Value} (h : fn.results = #[.tmp p]) (hv : a.eval (.tmp p) = v) : (results fn a.tmps).run P w = .ok v w := by
 have e := getD_ev hv
 simp only [Array.getD_eq_getD_getElem?] at e
 simp [results, h, e]
theorem res_c {fn : Func} {p : Nat} {ty : TypeId} {b n N cap : Nat} {t : TypeId} {g : Nat → Value} (h : fn.results = #[.cell p ty]) (hv : a.eval (.tmp p) = .pointer (some ⟨b, 0, none⟩)) (T : Many P ty n) (hm : Vh t w b N cap g) (hn : n ≤ N) : (results fn a.tmps).run P w = .ok (agV g 0 n) w := by
 have e := getD_ev hv
 simp only [Array.getD_eq_getD_getElem?] at e
 simp [results, h, e, asAddr, run_cellR T hm hn]
theorem res_cc {fn : Func} {p p' : Nat} {ty ty' : TypeId} {b b' n n' N N' cap cap' : Nat} {t t' : TypeId} {g g' : Nat → Value} (h : fn.results = #[.cell p ty, .cell p' ty']) (hv : a.eval (.tmp p) = .pointer (some ⟨b, 0, none⟩)) (hv' : a.eval (.tmp p') = .pointer (some ⟨b', 0, none⟩)) (T : Many P ty n) (T' : Many P ty' n') (hm : Vh t w b N cap g) (hn : n ≤ N) (hm' : Vh t' w b' N' cap' g') (hn' : n' ≤ N') :
  (results fn a.tmps).run P w = .ok (.tuple #[agV g 0 n, agV g' 0 n']) w := by
 have e := getD_ev hv; have e2 := getD_ev hv'
 simp only [Array.getD_eq_getD_getElem?] at e e2
 simp [results, h, e, e2, asAddr, run_cellR T hm hn, run_cellR T' hm' hn']
theorem res_ct {fn : Func} {p p' : Nat} {ty : TypeId} {b n N cap : Nat} {t : TypeId} {g : Nat → Value} {v : Value} (h : fn.results = #[.cell p ty, .tmp p']) (hv : a.eval (.tmp p) = .pointer (some ⟨b, 0, none⟩)) (hv' : a.eval (.tmp p') = v) (T : Many P ty n) (hm : Vh t w b N cap g) (hn : n ≤ N) :
  (results fn a.tmps).run P w = .ok (.tuple #[agV g 0 n, v]) w := by
 have e := getD_ev hv; have e2 := getD_ev hv'
 simp only [Array.getD_eq_getD_getElem?] at e e2
 simp [results, h, e, e2, asAddr, run_cellR T hm hn]
end
section
variable {P : Program} {Q : Exit → Act → World → Prop} {J : Act → World → Prop} {a : Act} {w : World} {ops : Array Oper} {x y : Code} {id : Nat}
theorem c_finB (h : CodI P y Q a w) : CodI P .skip (Exit.inBlock id (Nx P y Q)) a w := c_skip h
theorem l_finB (h : CodI P y Q a w) : LstI P ops (Exit.inBlock id (Nx P y Q)) [] a w := ⟨wpList_nil h⟩
theorem j_finB {S : World → Prop} {late : Nat → Bool} (h : CodI P y Q a w) : SeqJ P ops (Exit.inBlock id (Nx P y Q)) S late .fin a w := sJ_end h
theorem l_round (h : J a w) : LstI P ops (Exit.then J Q) [] a w := ⟨wpList_nil h⟩
theorem x_out (h : CodI P y Q a w) : Nx P x (Exit.then J (Exit.inBlock id (Nx P y Q))) (.exit id) a w := by
 show (if id = id then _ else _)
 rw [if_pos rfl]
 exact h
end
theorem x_in {P : Program} {Q : Exit → Act → World → Prop} {a : Act} {w : World} {x y : Code} {id : Nat} (h : CodI P y Q a w) : Nx P x (Exit.inBlock id (Nx P y Q)) (.exit id) a w := by
 show (if id = id then _ else _)
 rw [if_pos rfl]
 exact h
theorem x_out2 {P : Program} {Q : Exit → Act → World → Prop} {J : Act → World → Prop} {a : Act} {w : World} {x y : Code} {id id2 : Nat} (h : CodI P y Q a w) : Nx P x (Exit.then J (Exit.inBlock id (Exit.inBlock id2 (Nx P y Q)))) (.exit id) a w := by
 show (if id = id then _ else _)
 rw [if_pos rfl]
 exact h
end Go.Proofs.YtdhblehhgpdpdaaGreat
