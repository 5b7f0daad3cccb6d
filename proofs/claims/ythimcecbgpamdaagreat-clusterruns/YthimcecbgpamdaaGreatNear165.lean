import Derived.Test.YthimcecbgpamdaaGreatJoinI
namespace Go.Proofs.YthimcecbgpamdaaGreat
open Go.RowKit
set_option maxHeartbeats 400000 in
theorem TI(b:Nat)(x:Bool)(a c:Int)(w:World)(ha:R64 a)(hc:R64 c)(h:sP w b x):Calls Tryz.prog 118 #[.pointer (some ⟨b,0,none⟩),.int .i64 a,.int .i64 c] w λe w'=>e=.returned (.int .i64 (fM a c))/\sP w' b (x||vY a c)/\Kept b w w':=by
 have D:Calls Tryz.prog 145 #[.int .i64 a,.int .i64 c] w λe w'=>e=.returned (.tuple #[.int .i64 (fM a c),.bool (vY a c)])/\Below w.heap.size w w':=by
  by_cases hz:c=0
  .subst hz;exact (XM a w).mono λe w' h=>⟨h.1,by rw[h.2];exact Below.refl _ _⟩
  .exact aCg a c ha hc hz w
 have DD:=aB D;have H:=aB h;clear ha hc h D;go_enter Tryz.func118,Tryz.ntmps118
 go_wp2_with fail
 refine (aA DD).mono ?_;rintro e w1 ⟨rfl,k1⟩;have H1:=aB ((aA H).below k1);have K1:=aB k1;clear k1;go_wp2_with fail
 refine (CZ b x _ _ _ (aA H1)).mono ?_;rintro e w2 ⟨rfl,h2,k2⟩;have H2:=aB h2;have K2:=aB ((Kept.of_below (z:=b) (aA K1)).trans k2 (Or.inl rfl));clear h2 k2;go_wp2_with fail
 go_ret
 exact⟨rfl,aA H2,aA K2⟩
theorem xC(b:Nat)(x:Bool)(a c:Int)(w:World)(ha:R64 a)(hc:R64 c)(h:sP w b x):Calls Tryz.prog 116 #[.pointer (some ⟨b,0,none⟩),.int .i64 a,.int .i64 c] w λe w'=>e=.returned (.int .i64 (iZ a c))/\sP w' b (x||zL a c)/\Kept b w w':=aFm b x a c w ha hc h
theorem MK(b:Nat)(x:Bool)(a c:Int)(w:World)(ha:R64 a)(hc:R64 c)(h:sP w b x):Calls Tryz.prog 115 #[.pointer (some ⟨b,0,none⟩),.int .i64 a,.int .i64 c] w λe w'=>e=.returned (.int .i64 (uJ a c))/\sP w' b (x||OP a c)/\Kept b w w':=aHe b x a c w ha hc h
theorem uY(b:Nat)(x:Bool)(a c:Int)(w:World)(ha:R64 a)(hc:R64 c)(h:sP w b x):Calls Tryz.prog 117 #[.pointer (some ⟨b,0,none⟩),.int .i64 a,.int .i64 c] w λe w'=>e=.returned (.int .i64 (dO a c))/\sP w' b (x||vK a c)/\Kept b w w':=aGa b x a c w ha hc h
structure RG (w0:World) (s:St) (x:Bool) (u:World):Prop where
 src:SAt u w0.heap.size s
 res:SAt u (w0.heap.size+1) St.nil
 rk:sP u (w0.heap.size+1+1) x
 bel:Below w0.heap.size w0 u
variable{w0 u v:World}{s:St}{x:Bool}
theorem RG.kept{y:Bool}(h:RG w0 s x u)(k:Kept (w0.heap.size+1+1) u v)(b:sP v (w0.heap.size+1+1) y):RG w0 s y v:=
 ⟨h.src.kept k Yo,h.res.kept k Yo,b,aF h.bel k Yo h.bel.size⟩
theorem RG.below(h:RG w0 s x u)(k:Below u.heap.size u v):RG w0 s x v:=
 ⟨h.src.below k,h.res.below k,h.rk.below k,h.bel.trans (k.mono h.bel.size)⟩
theorem RG.drew(h:RG w0 s x u):RG w0 s x u.drew:=⟨h.src,h.res,h.rk,aU h.bel⟩
theorem J2(w:World)(s:St):∃v,v=((w.alloc (.cells #[.int .i64 s.X,.int .i64 s.V,.int .i64 s.P00,.int .i64 s.P01,.int .i64 s.P11,.bool s.B,.int .i64 s.M] 25)).alloc (.cells #[.int .i64 0,.int .i64 0,.int .i64 0,.int .i64 0,.int .i64 0,.bool false,.int .i64 0] 25)).alloc (.cells #[.bool s.B] 176)/\RG w s s.B v:=by
 obtain⟨w2,e2,h2,g2,k2⟩:=Y0 w s;have z2:w2.heap.size=w.heap.size+1+1:=by rw[e2,dK,dK]
 have h3:=BlAt.new 176 w2 s.B;rw[z2] at h3;rw[<-e2];have k3:=bU w2 (.cells #[.bool s.B] 176);exact⟨_,rfl,h2.below k3,g2.below k3,h3,k2.trans (k3.mono k2.size)⟩
structure RH (w0:World) (bn:Nat) (s:St) (x:Bool) (n:St) (u:World):Prop where
 g:RG w0 s x u
 nw:SAt u bn n
 lt:w0.heap.size+1+1<bn
variable{bn:Nat}
theorem RH.kept{n:St}{y:Bool}(h:RH w0 bn s x n u)(k:Kept (w0.heap.size+1+1) u v)(b:sP v (w0.heap.size+1+1) y):RH w0 bn s y n v:=
 ⟨h.g.kept k b,h.nw.kept k (by have:=h.lt;omega),h.lt⟩
theorem RH.drew{n:St}(h:RH w0 bn s x n u):RH w0 bn s x n u.drew:=⟨h.g.drew,h.nw,h.lt⟩
theorem RH.put{n m:St}(h:RH w0 bn s x n u)(k:Kept bn u v)(b:SAt v bn m):RH w0 bn s x m v:=by
 have:=h.lt;exact⟨⟨h.g.src.kept k Yo,h.g.res.kept k Yo,h.g.rk.kept k Yo,aF h.g.bel k Yo h.g.bel.size⟩,b,h.lt⟩
theorem VM(h:RG w0 s x u):∃v,v=u.alloc (.cells #[.int .i64 s.X,.int .i64 s.V,.int .i64 s.P00,.int .i64 s.P01,.int .i64 s.P11,.bool s.B,.int .i64 s.M] 25)/\RH w0 u.heap.size s x s v:=by
 obtain⟨v,e,g,k,z⟩:=vN u s;exact⟨v,e,h.below k,g,h.rk.lt⟩
end Go.Proofs.YthimcecbgpamdaaGreat
