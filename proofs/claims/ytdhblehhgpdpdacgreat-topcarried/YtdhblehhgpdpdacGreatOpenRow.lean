import Derived.Test.YtdhblehhgpdpdacGreatRowPlain
import Derived.Lib.SmallJoins
namespace Go.Proofs.YtdhblehhgpdpdacGreat
open Go.ChangeShapes Go.WideShapes Go.ChangeAt Go.RowKit Go.Joins
def ArgS(w:World)(ao:Option Addr)(len cap:Nat)(f:Nat→Int):Prop:=
 ((ao=none∧len=0∧cap=0)∨∃x,ao=some x∧∀i,i<len→w.cell? (x.add i)=some (.int .i64 (f i)))∧len*8≤140737488351232∧∀i,R64 (f i)
theorem ArgS.below{w w':World}{ao:Option Addr}{len cap:Nat}{f:Nat→Int}(h:ArgS w ao len cap f)(k:Below w.heap.size w w'):ArgS w' ao len cap f:=by
 refine⟨?_,h.2⟩
 rcases h.1 with h|⟨x,rfl,hc⟩
 ·exact Or.inl h
 ·exact Or.inr ⟨x,rfl,λi hi=>bE (hc i hi) k⟩
theorem aNb:Tryz.prog.bytesOf 3=8:=by kernel_rfl
theorem aFb:Tryz.prog.cellsOf 3=1:=by kernel_rfl
section
variable {H:Type} {enc:TypeId×Value→H} {w:World} {base:Nat} {held:Bool}
set_option maxRecDepth 100000 in
theorem aLP {fuel : Nat} {v : Value} {x : DataW H × List MemPlace} (h : DataW.trod enc Tryz.prog w base (λ_ => true) held fuel 67 [v] = some x) (hsz : ∀ n ∈ x.1.weights Tryz.prog 67, n ≤ reachBytes) :
  ∃ao len cap f,v=.slice ao len cap∧ArgS w ao len cap f:=by
 rcases open_ints Tryz.underlying67 Tryz.underlying3 aFb h with ⟨hcs,_⟩|⟨a,len,cap,zs,hcs,_,hl,_,hz,hx,hcell,hwz⟩
 ·simp at hcs
  exact⟨none,0,0,λ_=>0,hcs,Or.inl ⟨rfl,rfl,rfl⟩,by decide,λ_=>aAf⟩
 ·simp at hcs
  have hz':zs.length=cap:=by simpa using hz
  have hb:zs.length*8≤reachBytes:=by
   refine hsz _ ?_
   rw[hx]
   simp[DataW.weights,Tryz.underlying67,aNb,lits]
   left;omega
  refine⟨some a,len,cap,λi=>zs.getD i 0,hcs,Or.inr ⟨a,rfl,λi hi=>hcell i Yo⟩,by unfold reachBytes at hb;omega,λi=>?_⟩
  rcases Nat.lt_or_ge i zs.length with hi|hi
  ·have e:zs.getD i 0=zs[i]:=by simp[List.getD,hi]
   show R64 (zs.getD i 0)
   rw[e];exact R64.of_wf (hwz _ (List.getElem_mem hi))
  ·have e:zs.getD i 0=0:=by simp[List.getD,hi]
   show R64 (zs.getD i 0)
   rw[e];exact aAf
end
end Go.Proofs.YtdhblehhgpdpdacGreat
