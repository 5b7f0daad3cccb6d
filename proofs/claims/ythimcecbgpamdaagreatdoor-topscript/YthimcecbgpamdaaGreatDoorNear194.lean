import Derived.Test.YthimcecbgpamdaaGreatDoorJoinI
namespace Go.Proofs.YthimcecbgpamdaaGreatDoor
open Go.RowKit
structure RG (w0:World) (s:St) (x:Bool) (u:World):Prop where
 src:SAt u w0.heap.size s
 res:SAt u (w0.heap.size+1) St.nil
 rk:aCH u (w0.heap.size+1+1) x
 bel:Below w0.heap.size w0 u
variable{s:St}{u v w0:World}{x:Bool}
theorem RG.kept{y:Bool}(h:RG w0 s x u)(k:Kept (w0.heap.size+1+1) u v)(b:aCH v (w0.heap.size+1+1) y):RG w0 s y v:=
 ⟨h.src.kept k Yo,h.res.kept k Yo,b,aF h.bel k Yo h.bel.size⟩
theorem RG.below(h:RG w0 s x u)(k:Below u.heap.size u v):RG w0 s x v:=
 ⟨h.src.below k,h.res.below k,h.rk.below k,h.bel.trans (k.mono h.bel.size)⟩
theorem RG.drew(h:RG w0 s x u):RG w0 s x u.drew:=⟨h.src,h.res,h.rk,aY h.bel⟩
structure RH (w0:World) (bn:Nat) (s:St) (x:Bool) (n:St) (u:World):Prop where
 g:RG w0 s x u
 nw:SAt u bn n
 lt:w0.heap.size+1+1<bn
variable{bn:Nat}
theorem RH.kept{n:St}{y:Bool}(h:RH w0 bn s x n u)(k:Kept (w0.heap.size+1+1) u v)(b:aCH v (w0.heap.size+1+1) y):RH w0 bn s y n v:=
 ⟨h.g.kept k b,h.nw.kept k (by have:=h.lt;omega),h.lt⟩
theorem RH.drew{n:St}(h:RH w0 bn s x n u):RH w0 bn s x n u.drew:=⟨h.g.drew,h.nw,h.lt⟩
theorem RH.put{n m:St}(h:RH w0 bn s x n u)(k:Kept bn u v)(b:SAt v bn m):RH w0 bn s x m v:=by
 have:=h.lt;exact⟨⟨h.g.src.kept k Yo,h.g.res.kept k Yo,h.g.rk.kept k Yo,aF h.g.bel k Yo h.g.bel.size⟩,b,h.lt⟩
end Go.Proofs.YthimcecbgpamdaaGreatDoor
