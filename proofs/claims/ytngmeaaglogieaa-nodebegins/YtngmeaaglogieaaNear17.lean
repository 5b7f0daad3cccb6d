/- Joined: LawNod3, LawsZBegins, NodOps5. -/
import Derived.Test.YtngmeaaglogieaaNear8
import Derived.Test.YtngmeaaglogieaaNear24
import Derived.Test.YtngmeaaglogieaaNear10
import Derived.Test.YtngmeaaglogieaaNear19
namespace Go.Proofs.Ytngmeaaglogieaa
open Go.RowKit

theorem enter_msgs (x : Value) (w : World) : (callFunc 17 #[x]).run Try.prog w = .ok (.enter 17 #[x]) w := by go_simp
theorem enter_begun (w : World) : (callFunc 14 #[]).run Try.prog w = .ok (.enter 14 #[]) w := by go_simp
theorem enter_samen (x y : Value) (w : World) : (callFunc 10 #[x, y]).run Try.prog w = .ok (.enter 10 #[x, y]) w := by go_simp
theorem enter_samem (x y : Value) (w : World) : (callFunc 15 #[x, y]).run Try.prog w = .ok (.enter 15 #[x, y]) w := by go_simp
theorem sr_own {t : TypeId} {w : World} {B n c : Nat} {ao : Option Addr} {g : Nat → Value} (h : w.ownsRow B t 1 (.slice ao n c) n (rowV g n)) : Sr w ao n c g := by
  obtain ⟨ao2, cap, e, hs, _⟩ := owns_sr h
  cases e
  exact hs
theorem ms_rd {w w' : World} {B : Nat} {mo mo' : Option Addr} {k mc' : Nat} {L M : List Lm} (hM : M.map Lm.m = L.map Lm.m) (h : MRd w mo L) (o : OwnM w' B (.slice mo' k mc') M) : MRd w' mo' M := by
  refine o.rd (fun c hc => ?_)
  have : c.m ∈ L.map Lm.m := by rw [← hM]; exact List.mem_map_of_mem hc
  obtain ⟨d, hd, e⟩ := List.mem_map.1 this
  rw [← e]
  exact (h.2 d hd).2.2
theorem ms_R {L M : List Lm} (hM : M.map Lm.m = L.map Lm.m) (hRL : ∀ m, m ∈ L → ∀ i, R64 (gL m.m.L i)) : ∀ m, m ∈ M → ∀ i, R64 (gL m.m.L i) := by
  intro c hc
  have : c.m ∈ L.map Lm.m := by rw [← hM]; exact List.mem_map_of_mem hc
  obtain ⟨d, hd, e⟩ := List.mem_map.1 this
  rw [← e]
  exact hRL d hd
theorem ms_nil {w : World} : MRd w none [] := ⟨fun h => absurd h (by decide), fun c h => absurd h (List.not_mem_nil)⟩
theorem begN_ok : NdOK (begN 2 ⟨1, 0, 0, 0⟩) := by
  have z : R64 0 := ⟨by decide, by decide⟩
  have u : R64 4294967296 := ⟨by decide, by decide⟩
  exact ⟨⟨by decide, by decide⟩, z, tn1_ok, fun a => ⟨z, z, u, z, u, z⟩, fun i => z, fun i => z, fun s a => z, fun s => z, fun s a => z, fun a => z, z, z, by decide⟩

end Go.Proofs.Ytngmeaaglogieaa

namespace Go.Proofs.Ytngmeaaglogieaa
open Go.RowKit

theorem enter_pbegin (x y : Value) (w : World) : (callFunc 8 #[x, y]).run Try.prog w = .ok (.enter 8 #[x, y]) w := by go_simp
set_option maxHeartbeats 2000000 in
theorem nodeBegins_by (hp : BnOK 8) (id : Int) (t : Tn) (w : World) (hid : R64 id) (ht : t.Ok) :
    Calls Try.prog 3 #[.int .i64 id, agV (ntnF t) 0 4] w fun e w' => e = .returned (.bool true) ∧ Below w.heap.size w w' := by
  have hlen : (begN id t).vA.length ≤ 140737488351232 := by
    unfold begN
    split <;> exact Nat.zero_le _
  refine enterF Try.func3 rfl 29 rfl (of_decide_eq_true rfl) (fun A hs hd hb => ?_)
  have b0 : A.eval (.tmp 0) = .int .i64 id := hb 0 _ rfl
  have b1 : A.eval (.tmp 1) = agV (ntnF t) 0 4 := hb 1 _ rfl
  clear hb
  refine c_rs (m_start ?_)
  refine m_do rfl (wanted_rd rfl) (fun K hK => ?_)
  refine wp_boxG _ _ _ rfl (ev_out rfl b1) (of_decide_eq_true rfl) ?_
  intro w1 m1 k1 z1
  refine hK _ _ ?_
  clear hK K
  refine m_mv rfl (wanted_rd rfl) (run_assign _ rfl (ev_const _ _) _) ?_
  refine l_nx ?_
  refine c_rs ?_
  refine m_mv rfl (wanted_rd rfl) (run_move _ rfl (ev_out rfl b0) _) ?_
  refine m_mv rfl (wanted_rd rfl) (run_loadPe _ _ rfl manyTn (ev_in rfl (by omega)) m1 (by omega) (fun j _ => by rw [Nat.zero_add])) ?_
  refine m_do rfl (wanted_rd rfl) (fun K hK => ?_)
  refine wp_call2 _ 8 _ _ _ rfl (ev_in rfl (by omega)) (ev_in rfl (by omega)) (enter_pbegin _ _ _) (hp id t _ hid ht) ?_
  rintro e w2 ⟨a4, c4, rfl, oa42, k2⟩
  have oa42 := (show World.ownsRow _ _ _ _ _ _ _ from oa42)
  have n2 := k2.size
  have mt2 := m1.below k2
  refine ⟨_, rfl, ?_⟩
  refine hK _ _ ?_
  clear hK K
  refine m_mv rfl (wanted_rd rfl) (run_move _ rfl (ev_in rfl (by omega)) _) ?_
  refine m_mv rfl (wanted_rd rfl) (run_extA _ rfl (ev_in rfl (by omega)) _) ?_
  refine m_mv rfl (wanted_rd rfl) (run_extB _ rfl (ev_in rfl (by omega)) _) ?_
  refine m_do rfl (wanted_rd rfl) (fun K hK => ?_)
  refine wp_allocG _ _ rfl zeroNd (of_decide_eq_true rfl) ?_
  intro w3 m3 k3 z3
  have mt3 := mt2.below k3
  have oa43 := rw_below oa42 k3
  refine hK _ _ ?_
  clear hK K
  refine m_st (wanted_rd rfl) (fun K hK => ?_)
  refine wp_storeP _ _ _ _ rfl manyNd (ev_in rfl (by omega)) (ev_in rfl (by omega)) m3 (by decide) (ndF_one _ _ _ _) rfl ?_
  intro w4 mm4 k4 z4
  have ma4 := Vh.congr mm4 (stP_all _ _)
  have mt4 := mt3.kept k4 (by omega)
  have oa44 := rw_kept oa43 k4 (fun e => by have e2 := (oa42.lt _ e).2; omega)
  refine hK _ ?_
  clear hK K
  refine m_mv rfl (wanted_rd rfl) (run_assign _ rfl (ev_in rfl (by omega)) _) ?_
  refine l_nx ?_
  refine c_rs ?_
  refine m_mv rfl (wanted_rd rfl) (run_move _ rfl (ev_out rfl b0) _) ?_
  refine m_mv rfl (wanted_rd rfl) (run_loadPe _ _ rfl manyTn (ev_in rfl (by omega)) mt4 (by omega) (fun j _ => by rw [Nat.zero_add])) ?_
  refine m_do rfl (wanted_rd rfl) (fun K hK => ?_)
  refine wp_call2 _ 9 _ _ _ rfl (ev_in rfl (by omega)) (ev_in rfl (by omega)) (enter_bgnode _ _ _) (refBeginNode_ok id t _ hid ht) ?_
  rintro e w5 ⟨a5, c5, rfl, oa55, k5⟩
  have oa55 := (show World.ownsRow _ _ _ _ _ _ _ from oa55)
  have n5 := k5.size
  have mt5 := mt4.below k5
  have ma5 := ma4.below k5
  have oa45 := rw_below oa44 k5
  refine ⟨_, rfl, ?_⟩
  refine hK _ _ ?_
  clear hK K
  refine m_mv rfl (wanted_rd rfl) (run_move _ rfl (ev_in rfl (by omega)) _) ?_
  refine m_mv rfl (wanted_rd rfl) (run_extA _ rfl (ev_in rfl (by omega)) _) ?_
  refine m_mv rfl (wanted_rd rfl) (run_extB _ rfl (ev_in rfl (by omega)) _) ?_
  refine m_do rfl (wanted_rd rfl) (fun K hK => ?_)
  refine wp_allocG _ _ rfl zeroNd (of_decide_eq_true rfl) ?_
  intro w6 m6 k6 z6
  have mt6 := mt5.below k6
  have ma6 := ma5.below k6
  have oa46 := rw_below oa45 k6
  have oa56 := rw_below oa55 k6
  refine hK _ _ ?_
  clear hK K
  refine m_st (wanted_rd rfl) (fun K hK => ?_)
  refine wp_storeP _ _ _ _ rfl manyNd (ev_in rfl (by omega)) (ev_in rfl (by omega)) m6 (by decide) (ndF_one _ _ _ _) rfl ?_
  intro w7 mm7 k7 z7
  have mb7 := Vh.congr mm7 (stP_all _ _)
  have mt7 := mt6.kept k7 (by omega)
  have ma7 := ma6.kept k7 (by omega)
  have oa47 := rw_kept oa46 k7 (fun e => by have e2 := (oa42.lt _ e).2; omega)
  have oa57 := rw_kept oa56 k7 (fun e => by have e2 := (oa55.lt _ e).2; omega)
  refine hK _ ?_
  clear hK K
  refine m_mv rfl (wanted_rd rfl) (run_assign _ rfl (ev_in rfl (by omega)) _) ?_
  refine l_nx ?_
  refine c_rs ?_
  refine m_mv rfl (wanted_rd rfl) (run_move _ rfl (ev_in rfl (by omega)) _) ?_
  refine m_mv rfl (wanted_rd rfl) (run_move _ rfl (ev_in rfl (by omega)) _) ?_
  refine m_mv rfl (wanted_rd rfl) (run_eqlE (b := true) _ _ rfl (ev_in rfl (by omega)) (ev_in rfl (by omega)) (decide_eq_true rfl) _) ?_
  refine m_mv rfl (wanted_rd rfl) (run_move _ rfl (ev_in rfl (by omega)) _) ?_
  refine m_mv rfl (wanted_g (j := 3) rfl rfl rfl (ev_in rfl (by omega))) (run_loadP _ _ rfl manyNd (ev_in rfl (by omega)) ma7 (by decide)) ?_
  refine m_mv rfl (wanted_g (j := 3) rfl rfl rfl (ev_in rfl (by omega))) (run_loadP _ _ rfl manyNd (ev_in rfl (by omega)) mb7 (by decide)) ?_
  refine m_do rfl (wanted_g (j := 3) rfl rfl rfl (ev_in rfl (by omega))) (fun K hK => ?_)
  refine wp_call2 _ 10 _ _ _ rfl (ev_in rfl (by omega)) (ev_in rfl (by omega)) (enter_samen _ _ _) (refSameNode_any (begN id t) a4 a5 c4 c5 _ (sr_own oa47) (sr_own oa57) hlen) ?_
  rintro e w8 ⟨rfl, k8⟩
  have n8 := k8.size
  have mt8 := mt7.below k8
  have ma8 := ma7.below k8
  have mb8 := mb7.below k8
  have oa48 := rw_below oa47 k8
  have oa58 := rw_below oa57 k8
  refine ⟨_, rfl, ?_⟩
  refine hK _ _ ?_
  clear hK K
  refine m_mv rfl (wanted_rd rfl) (run_pickT' _ _ _ rfl (ev_in rfl (by omega)) (ev_in rfl (by omega)) _) ?_
  refine m_mv rfl (wanted_rd rfl) (run_assign _ rfl (ev_in rfl (by omega)) _) ?_
  refine l_nx ?_
  refine c_ret (ret_of ((defL _ _).trans hd) (res_t rfl (ev_in rfl (by omega))) ⟨rfl, ?_⟩)
  exact (below_of_kept (((below_of_kept ((k1.trans (k2.mono (by omega))).trans (k3.mono (by omega))) k4 (by omega) (by omega)).trans (k5.mono (by omega))).trans (k6.mono (by omega))) k7 (by omega) (by omega)).trans (k8.mono (by omega))

end Go.Proofs.Ytngmeaaglogieaa

namespace Go.Proofs.Ytngmeaaglogieaa
open Go.RowKit

theorem manyHr : Many Try.prog 64 4 := Many.of _ Try.underlying64 rfl (by kernel_rfl)
theorem zeroHr (w : World) : (zeroValue 64).run Try.prog w = .ok (agV (fun _ => .slice none 0 0) 0 4) w := by kernel_rfl
section
variable {P : Program} {f : Operand → Value} {o : Oper}
/-- An array's element, of one cell; of many. -/
theorem run_ixV1 (ty e : TypeId) (x y : Operand) (ho : o.op = .index ty x y) {len i : Nat} (hu : P.underlying ty = some (.array len e)) (T : OneC P e) {g : Nat → Value} {z : Int} (hx : f x = agV g 0 len) (hy : f y = .int .i64 z) (hz : z = (i : Int)) (hi : i < len) (w : World) :
    (execOp f o).run P w = .ok (.value (g i)) w := by
  subst hz
  have h2 : (i : Int) < (len : Int) := by omega
  have hc : (((List.range len).map fun j => g (0 + j)).toArray)[i]? = some (g i) := by
    rw [List.getElem?_toArray, List.getElem?_map, List.getElem?_range hi]
    show some (g (0 + i)) = _
    rw [Nat.zero_add]
  unfold execOp
  simp only [ho, hx, hy, agV, Instr.index, asIntOf, part, Sem.run_bind, Sem.run_pure, Result.andThen_ok, run_underlying hu]
  simp [h2, T.agg, T.size, hi]
theorem run_ixVM (ty e : TypeId) (x y : Operand) (ho : o.op = .index ty x y) {len i m N : Nat} (hu : P.underlying ty = some (.array len e)) (T : Many P e m) {g : Nat → Value} {z : Int} (hx : f x = agV g 0 N) (hN : len * m = N) (hy : f y = .int .i64 z) (hz : z = (i : Int)) (hi : i < len) (w : World) :
    (execOp f o).run P w = .ok (.value (agV g (i * m) m)) w := by
  subst hz hN
  have h2 : (i : Int) < (len : Int) := by omega
  have h3 : i * m + m ≤ len * m := by
    have : (i + 1) * m ≤ len * m := Nat.mul_le_mul_right m (by omega)
    rwa [Nat.succ_mul] at this
  have hc : (((List.range (len * m)).map fun j => g (0 + j)).toArray).extract (i * m) (i * m + m) = ((List.range m).map fun j => g (i * m + j)).toArray := by
    refine Array.ext_getElem? (fun j => ?_)
    rw [Array.getElem?_extract, List.size_toArray, List.length_map, List.length_range]
    by_cases hj : j < m
    · rw [if_pos (by omega), List.getElem?_toArray, List.getElem?_map, List.getElem?_range (by omega), List.getElem?_toArray, List.getElem?_map, List.getElem?_range hj]
      show some (g (0 + (i * m + j))) = some (g (i * m + j))
      rw [Nat.zero_add]
    · rw [if_neg (by omega), List.getElem?_toArray, List.getElem?_eq_none (by simp; omega)]
  unfold execOp
  simp only [ho, hx, hy, agV, Instr.index, asIntOf, Sem.run_bind, Sem.run_pure, Result.andThen_ok, run_underlying hu]
  rw [if_pos (show (0 : Int) ≤ (i : Int) ∧ (i : Int) < (len : Int) from ⟨by omega, h2⟩)]
  simp only [part, Sem.run_bind, Sem.run_pure, Result.andThen_ok, T.agg, T.size, if_true, Int.toNat_natCast, hc]
end
section
variable {f : Operand → Value} {o : Oper}
theorem run_cutI3 (x : Operand) (ho : o.op = .slice 31 x none none none) {b off : Nat} (hx : f x = .pointer (some ⟨b, off, none⟩)) (w : World) : (execOp f o).run Try.prog w = .ok (.value (.slice (some ⟨b, off, none⟩) 3 3)) w := by
  unfold execOp
  rw [ho]
  dsimp only
  rw [hx]
  go_simp
theorem run_cutB4 (x : Operand) (ho : o.op = .slice 27 x none none none) {b off : Nat} (hx : f x = .pointer (some ⟨b, off, none⟩)) (w : World) : (execOp f o).run Try.prog w = .ok (.value (.slice (some ⟨b, off, none⟩) 4 4)) w := by
  unfold execOp
  rw [ho]
  dsimp only
  rw [hx]
  go_simp
theorem run_cut43 (x : Operand) (ho : o.op = .slice 32 x none none none) {b off : Nat} (hx : f x = .pointer (some ⟨b, off, none⟩)) (w : World) : (execOp f o).run Try.prog w = .ok (.value (.slice (some ⟨b, off, none⟩) 4 4)) w := by
  unfold execOp
  rw [ho]
  dsimp only
  rw [hx]
  go_simp
theorem run_lenT (x : Operand) (ho : o.op = .call { callee := .builtin .len, args := #[x], argTypes := #[33] }) {ao : Option Addr} {n c : Nat} (hx : f x = .slice ao n c) (w : World) : (execOp f o).run Try.prog w = .ok (.value (.int .i64 ((n : Nat) : Int))) w := by
  unfold execOp
  rw [ho]
  dsimp only
  go_simp
end

end Go.Proofs.Ytngmeaaglogieaa
