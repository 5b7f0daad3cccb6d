/- What the statements on the phases share. -/
import Derived.Test.YtngmeaaglogieaaNear7
import Derived.Test.YtngmeaaglogieaaNear22
import Derived.Test.YtngmeaaglogieaaNear9
namespace Go.Proofs.Ytngmeaaglogieaa
open Go.RowKit

theorem enter_msgs (x : Value) (w : World) : (callFunc 17 #[x]).run Try.prog w = .ok (.enter 17 #[x]) w := by go_simp
theorem enter_begun (w : World) : (callFunc 14 #[]).run Try.prog w = .ok (.enter 14 #[]) w := by go_simp
theorem enter_samen (x y : Value) (w : World) : (callFunc 10 #[x, y]).run Try.prog w = .ok (.enter 10 #[x, y]) w := by go_simp
theorem enter_samem (x y : Value) (w : World) : (callFunc 15 #[x, y]).run Try.prog w = .ok (.enter 15 #[x, y]) w := by go_simp
theorem sr_own {t : TypeId} {w : World} {B n c : Nat} {ao : Option Addr} {g : Nat → Value} (h : w.ownsRow B t 1 (.slice ao n c) n (rowV g n)) : Sr w ao n c g := by
  obtain ⟨ao2, cap, e, hs, _⟩ := owns_sr h
  cases e
  exact hs
theorem ms_rd {w w' : World} {B : Nat} {mo mo' : Option Addr} {k mc' : Nat} {L M : List Lm} (hM : M.map Lm.m = L.map Lm.m) (h : MRd w mo L) (o : OwnM w' B (.slice mo' k mc') M) : MRd w' mo' M := by
  refine o.rd (fun c hc => ?_)
  have : c.m ∈ L.map Lm.m := by rw [← hM]; exact List.mem_map_of_mem hc
  obtain ⟨d, hd, e⟩ := List.mem_map.1 this
  rw [← e]
  exact (h.2 d hd).2.2
theorem ms_R {L M : List Lm} (hM : M.map Lm.m = L.map Lm.m) (hRL : ∀ m, m ∈ L → ∀ i, R64 (gL m.m.L i)) : ∀ m, m ∈ M → ∀ i, R64 (gL m.m.L i) := by
  intro c hc
  have : c.m ∈ L.map Lm.m := by rw [← hM]; exact List.mem_map_of_mem hc
  obtain ⟨d, hd, e⟩ := List.mem_map.1 this
  rw [← e]
  exact hRL d hd
theorem ms_nil {w : World} : MRd w none [] := ⟨fun h => absurd h (by decide), fun c h => absurd h (List.not_mem_nil)⟩
theorem begN_ok : NdOK (begN 2 ⟨1, 0, 0, 0⟩) := by
  have z : R64 0 := ⟨by decide, by decide⟩
  have u : R64 4294967296 := ⟨by decide, by decide⟩
  exact ⟨⟨by decide, by decide⟩, z, tn1_ok, fun a => ⟨z, z, u, z, u, z⟩, fun i => z, fun i => z, fun s a => z, fun s => z, fun s a => z, fun a => z, z, z, by decide⟩

end Go.Proofs.Ytngmeaaglogieaa
