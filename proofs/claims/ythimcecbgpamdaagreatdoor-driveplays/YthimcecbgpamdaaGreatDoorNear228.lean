import Derived.Test.YthimcecbgpamdaaGreatDoorShelf
import Derived.Sort.OwnSortedInts
import Derived.Test.YthimcecbgpamdaaGreatDoorNear225
set_option maxHeartbeats 8000000
set_option maxRecDepth 100000
open Go.Proofs.YthimcecbgpamdaaGreatDoor renaming aA->N,hide->γ,R64->ζ,Kept->κ,offW->τ,offY->υ,rowV->ψ
open _root_ renaming rfl->β,Nat->η,Int->θ,Option->Φ
open Option renaming none->δ,some->ε
open Go.Proofs.Tryz renaming prog->ι
open Go renaming Calls->μ,World->ο,callFunc->Γ,undef->Δ,bodyPost_ret->Λ,execOp->Ξ,results->Ψ
open Go.Value renaming int->ν,slice->ρ,bool->χ,int->ω,ownBlock->Θ,pointer->Ω
open Go.IntKind renaming i64->ξ
open Go.Act renaming put->π
open Go.Obj renaming cells->σ
open Go.World renaming cell?->φ
namespace Go.Proofs.YthimcecbgpamdaaGreatDoor
section
open Go.RowKit Go.Shelf Go.Sort
attribute [local go_sem] Oper.semAt_some
def ZQ(g:η)(lb:Array Value)(xs:List θ)(w:ο):Prop:=
 SeqStopsK Fence.wide 2 ι g lb (λx=>#[ν ξ x]) (Below w.heap.size) (λys=>ys=xs) (λ_=>True) xs.length w
def ApI(w:ο)(pre:List θ)(W:ο):Prop:=
 ∃(ao:Φ Addr) (c:η),Vh 72 W w.heap.size 1 1 (λ_=>ρ ao pre.length c)/\W.ownsRow (w.heap.size+1) 3 1 (ρ ao pre.length c) pre.length (pre.map (ω ξ))/\Below w.heap.size w W/\w.heap.size+1<=W.heap.size
variable{w:ο}
theorem aNG{B}(hB:B=w.heap.size+1):OwnFrom B (ApI w):=by
 rintro pre X Y row ⟨f,c,h1,h2,m,h5⟩ hg hrow;have a:∀j,j<w.heap.size+1->ε j≠row:=λj n e=>by have:=(hrow j e.symm).1;omega
 refine⟨f,c,h1.same (hg.block _ h1.lt (a _ Yo)),h2.kept hg ?_,m.trans ⟨hg.os,hg.tape,hg.output,hg.size,λj n=>hg.block j Yo (a j Yo)⟩,Ap h5 hg.size⟩;rcases h2.2 with ⟨e,_⟩|⟨b,cap,l,e,_,d,_⟩
 .exact .inl (by rw[e];rfl)
 rw[e];refine .inr λe'=>?_;obtain⟨_,o,ho,hc⟩:=hrow b (by simpa [Θ] using e'.symm);rw[d] at ho;cases ho;cases hc
variable{ao:Φ Addr}
theorem aJz{W w3}{pre}{x}{ac g' cap'}(B0)(h1:Vh 72 W w.heap.size 1 1 (λ_=>.slice ao pre.length ac))(h2:W.ownsRow (w.heap.size+1) 3 1 (.slice ao pre.length ac) pre.length (pre.map (ω .i64)))(h4:Below w.heap.size w W)(h5:w.heap.size+1<=W.heap.size)(ho:w3.ownsRow (w.heap.size+1) 3 1 (.slice (ε ⟨g',0,δ⟩) (pre.length+1) cap') (pre.length+1) (pre.map (ω .i64)++[.int .i64 x]))(hg:(W.alloc (.cells #[.int .i64 x] 3)).grownBy w3 (Value.slice ao pre.length ac).ownBlock):Vh 72 w3 w.heap.size 1 1 (λ_=>.slice ao pre.length ac)/\KeepsFrom B0 W (w3.setCell ⟨w.heap.size,0,δ⟩ (.slice (ε ⟨g',0,δ⟩) (pre.length+1) cap'))/\Below w.heap.size W (w3.setCell ⟨w.heap.size,0,δ⟩ (.slice (ε ⟨g',0,δ⟩) (pre.length+1) cap'))/\ApI w (pre++[x]) (w3.setCell ⟨w.heap.size,0,δ⟩ (.slice (ε ⟨g',0,δ⟩) (pre.length+1) cap')):=by
 have sz:(W.alloc (σ #[iY x] 3)).heap.size=W.heap.size+1:=fA _ _;have c:∀j,j<w.heap.size+1->ε j≠(Value.slice ao pre.length ac).ownBlock:=by
  intro j hj e;rcases h2.2 with ⟨e2,_⟩|⟨b,d,cur,e2,hb,_⟩
  .rw[e2] at e;simp[Θ] at e
  rw[e2] at e;simp[Θ] at e;omega
 have hblk:=λj hj=>(hg.block j (by rw[sz];omega) (c j hj)).trans ((bU W (σ #[iY x] 3)).block j (show j<W.heap.size by omega));have n:=hg.size;rw[sz] at n;have m3:=h1.same (hblk _ Yo);have m:=m3.set 0 (AZ g' (pre.length+1) cap');have a:=bN w3 w.heap.size 0 (AZ g' (pre.length+1) cap');obtain⟨w4,l⟩:=wZ (w3.setCell ⟨w.heap.size,0,δ⟩ (AZ g' (pre.length+1) cap'));rw[<-l] at m a;have f:Below w.heap.size W w4:=⟨by rw[a.os];exact hg.os,by rw[a.tape];exact hg.tape,by rw[a.output];exact hg.output,by have:=a.size;omega,λj hj=>(a.block j Yo Yo).trans (hblk j Yo)⟩;refine⟨m3,?_,?_,?_⟩
 .refine ((KeepsOthers.alloc W (σ #[iY x] 3)).trans ((KeepsOthers.of_grownBy hg λj o ej hj=>?_).trans (KeepsOthers.setCell _ _ _))).from _;rcases (h2.alloc (σ #[iY x] 3)).2 with ⟨e2,_⟩|⟨b,d,cur,e2,_,hgb,_⟩
  .rw[e2] at ej;simp[Θ] at ej
  rw[e2] at ej;obtain rfl:b=j:=by simpa [Θ] using ej
  rw[hgb] at hj;cases hj;rfl
 .grind
 rw[<-l];refine⟨ε ⟨g',0,δ⟩,cap',?_,?_,h4.trans f,?_⟩
 .refine m.congr (λi hi=>?_);have:i=0:=Yo;subst this;rw[lL];simp
 .have:=wG ho a Yo;grind
 have:=a.size;omega
theorem aGs(w:ο)(v):Vh 72 (w.alloc (.cells #[v] 72)) w.heap.size 1 1 (λ_=>v):=by refine Vh.new w 72 #[v] (λ_=>v) Od (λi hi=>?_);grind
theorem YG(g:η)(lb)(xs)(w)(hx:xs.length<=64)(eg:∀args w,(Γ g args).run ι w=.ok (.enter g args) w)(hseq:ZQ g lb xs w):μ ι 290 #[.slice δ 0 0,.func (.func g) #[] lb] w λe w'=>∃v,e=.returned v/\w'.ownsRow w.heap.size 3 1 v xs.length (xs.map (ω .i64))/\Below w.heap.size w w':=by
 obtain⟨U,hi,q,s,t⟩:=Ef UR;have h1:=aGs w (ρ δ 0 0);have k1:=bU w (σ #[ρ δ 0 0] 72);have I:=fA w (σ #[ρ δ 0 0] 72);obtain⟨J,e1⟩:=wZ (w.alloc (σ #[ρ δ 0 0] 72));rw[<-e1] at h1 k1 I;have E1:=γ e1;have L:=γ h1;have z:=γ k1;have p:=γ I;have O:=γ hx;have HQ:=γ hseq;refine (callsIn_wide (n:=3)).1<|callsIn_of_wp_marks Tryz.func290 rfl trivial ?_ rfl;refine wpIn_wide.2 ?_;simp only[Tryz.ntmps290,Co,Ai,Au,Nat.reduceAdd,Nat.reduceSub,Array.replicate_succ,Array.replicate_zero,List.push_toArray,List.append_toArray,Da,Ez];go_wp2_with fail;rw[<-N E1];refine (wpIn_wide (n:=3)).1<|wpIn_rangeFunc_ownG rfl Yo (gf:=g) (lb:=lb) rfl trivial eg (N HQ) (λh k=>h.trans k) (λW l o Z S h h2 h3=>belowK_b (w:=J) (by have:=N p;omega) W l o Z S h h2 h3) (N z) (λ_=>rfl)
  (ApI w) (λ_ _ _=>False) (aNG (N p)) (λ_ _ _ _ _ hs _ _=>hs)
  ⟨δ,0,N L,Am _ _ _ _,N z,by have:=N p;omega⟩
  (λx=>{ tmps:=#[ρ δ 0 0,.func (.func g) #[] lb,iG w.heap.size,Δ,ρ δ 0 0,iY x,.func (.func g) #[] lb,iY x,Δ,Δ,Δ,Δ,Δ],defers:=[] }) ?assign ?body ?done ?stop
 case assign=>
  intro l x W K hK;gi_wp2;exact hK
 case body=>
  rintro l y x W ⟨Q,P,h1,h2,d,j⟩ T;have R:=h1.cell (i:=0) Yo;have C:=N O;gi_wp2_with (first
   | (gi_at_builtin; refine wpListIn_append_own _ β _ _ 72 β (w.heap.size + 1) 3 U (iY 0) 1 8 Fu hi q s t β Yc _ _ _ β (h2.alloc _) ⟨W.heap.size, 0, δ⟩ 1 1 [iY x] β β (cell_one_new _ _ _) (by simp [Value.oneCell']) Ym Yo (by rw [fA]; omega) ?_
      intro v' w3 a f _;obtain⟨g',A,rfl⟩:=ownsRow_succ a;obtain⟨F,V,Y,X⟩:=aJz (x:=x) J.heap.size h1 h2 d j a f;have c3:=F.cell (i:=0) Yo;have f3:=F.free 0;go_frame)
   |gi_in)
  exact⟨N (γ V),N (γ Y),N (γ X)⟩
 case done=>
  rintro D ys W B rfl ⟨Q,P,h1,h2,d,j⟩ hK;have R:=h1.cell (i:=0) Yo;have m:=γ hK;go_wp2_with fail;obtain⟨h1,h2,d,j⟩:=N (γ (⟨h1,h2,d,j⟩:_/\_/\_/\_));have B:=N (γ B);refine⟨Mt,.inl ⟨_,_,β,run_takeDeferred (N m),?_⟩⟩;exact⟨_,results_tmp β _ _ _,⟨_,β,xS (ownsRow_putObj h2 (.deferred δ) (N m) β) Yo,(d.trans (belowK_b (w:=w) (Xr _) W D _ (.deferred δ) Yo (N m) β β))⟩⟩
 case stop=>
  rintro D c y W _ _ h _;exact h.elim
theorem aCE(g:η)(lb)(xs)(w)(hx:xs.length<=64)(eg:∀args w,(Γ g args).run ι w=.ok (.enter g args) w)(hseq:ZQ g lb xs w):μ ι 272 #[.func (.func g) #[] lb] w λe w'=>∃v,e=.returned v/\w'.ownsRow w.heap.size 3 1 v xs.length (xs.map (ω .i64))/\Below w.heap.size w w':=by go_in;go_wp2_with fail;refine (YG g lb xs w hx eg hseq).mono ?_;rintro e w' ⟨v,rfl,h1,h2⟩;go_wp2_with fail;go_ret;simp_all
theorem aLR(B)(v)(xs)(w)(hx:xs.length<=64)(ho:w.ownsRow B 3 1 v xs.length (xs.map (ω .i64)))(hB:B<=w.heap.size):μ ι 273 #[v] w λe w'=>e=.returned (.tuple #[])/\w'.ownsRow B 3 1 v xs.length ((kI xs).map (ω .i64))/\Below B w w':=by
 rcases ho.2 with ⟨rfl,o⟩|⟨m,d,l,rfl,a,c,p,q,s,t⟩
 .have f:=Ja o;subst f;refine (AnyM.slices_Sort_int_none Tryz.sortInts δ 0 w).mono ?_;rintro e w' ⟨rfl,rfl⟩;exact⟨β,by simpa [kI] using ho,Below.refl _ _⟩
 refine (AnyM.slices_Sort_int Tryz.sortInts m 0 d xs w (holds_of_blockI c (by simpa using t)) ((Array.getElem?_eq_some_iff.1 c).1) Yo).mono ?_;rintro e w' ⟨rfl,y,z,rfl⟩;refine⟨β,ownsRow_sortedI (VS xs) a c p q s,?_⟩;exact (Af B w).grown (grownBy_sortedI _) hB (λj n=>by cases n;exact a)
theorem aFU(g:η)(lb)(xs)(w)(hx:xs.length<=64)(eg:∀args w,(Γ g args).run ι w=.ok (.enter g args) w)(hseq:ZQ g lb xs w):μ ι 244 #[.func (.func g) #[] lb] w λe w'=>∃ao cap,e=.returned (.slice ao xs.length cap)/\w'.ownsRow w.heap.size 3 1 (.slice ao xs.length cap) xs.length ((kI xs).map (ω .i64))/\Below w.heap.size w w':=by
 go_in;go_wp2_with fail;refine (aCE g lb xs w hx eg hseq).mono ?_;rintro e d ⟨v,rfl,h1,h2⟩;have S:=aLR w.heap.size v xs d hx h1 h2.size;obtain⟨ao,cap,rfl⟩:∃ao cap,v=ρ ao xs.length cap:=by
  rcases h1.2 with ⟨rfl,f⟩|⟨b,c,_,rfl,_⟩
  .grind
  exact⟨_,c,β⟩
 go_wp2_with fail;refine S.mono ?_;rintro e j ⟨rfl,h3,a⟩;go_wp2_with fail;go_ret;exact⟨ao,cap,β,N (γ h3),(N (γ h2)).trans (N (γ a))⟩
end
section
open Go.RowKit Go.Shelf
attribute [local go_sem] Oper.semAt_some
variable{f:η->θ}{n:η}
theorem aRT{k}(hk:k<n):(nP f n).take (k+1)=(nP f n).take k++[f k]:=by rw[List.take_succ_eq_append_getElem (by rw[wF];exact hk)];simp[nP]
theorem aOI:(nP f n).take n=nP f n:=Hy (by rw[wF];exact Xr _)
theorem ZE(X b o n cap)f(w)(hn:n<=64)(hX:w.cell? ⟨X,0,δ⟩=ε (.slice (ε ⟨b,o,δ⟩) n cap))(hc:∀i,i<n->w.cell? ⟨b,o+i,δ⟩=ε (.int .i64 (f i))):ZQ 246 #[.pointer (ε ⟨X,0,δ⟩)] (nP f n) w:=by
 intro l J F W y _ _ D B;have L:W.cell? ⟨X,0,δ⟩=ε (ρ (ε ⟨b,o,δ⟩) n cap):=aP hX y;refine callsIn_of_wp Tryz.func246 β trivial ?_ β;simp only[Tryz.ntmps246,Co,Ai,Au,Nat.reduceAdd,Nat.reduceSub,Array.replicate_succ,Array.replicate_zero,List.push_toArray,List.append_toArray,Da,Ez];gi_wp2;gi_loopw [7] (λq j=>∃k:η,k<=n/\q=iY (k:θ)/\J ((nP f n).take k) j/\nS w j)
  (λq _=>n-(intOf q).toNat)
 case atStart=>exact⟨0,Xz _,rfl,by simpa using B,y⟩
 case round=>
  obtain⟨k,P,rfl,a,hb⟩:=hrel
  rename ο=>j;by_cases d:k<n
  .obtain⟨O,A,m,t,hy,C⟩:=D _ (f k) j a (by rw[Ea,wF];omega);have K:j.cell? ⟨b,o+k,δ⟩=ε (iY (f k)):=aP (hc k d) hb;have z:(k:θ)<(n:θ):=Yo;gi_wp2;refine C.mono ?_;rintro e I (⟨rfl,p,s⟩|⟨rfl,c⟩)
   .gi_wp2;go_roundw;case rel=>exact⟨k+1,Yo,Je,by rw[aRT d];exact p,hb.trans s⟩
    case measure=>simp[intOf];omega
   gi_wp2;exact Λ (results_none β _ _ _) β<|⟨⟨_,rfl⟩,.inr ⟨_,trivial,c⟩⟩
  obtain rfl:k=n:=Yo;gi_wp2;go_end0;exact⟨⟨_,β⟩,.inl ⟨_,β,by rw[aOI] at a;exact a⟩⟩
theorem aGb(ao)(len c)(w):μ ι 220 #[.slice ao len c] w λe w'=>e=.returned (.func (.func 246) #[] #[.pointer (ε ⟨w.heap.size,0,δ⟩)])/\Vh 72 w' w.heap.size 1 1 (λ_=>.slice ao len c)/\Below w.heap.size w w'/\w'.heap.size=w.heap.size+1:=by have h1:=aGs w (ρ ao len c);have h2:=bU w (σ #[ρ ao len c] 72);go_in;go_wp2_with fail;go_ret;simp_all
end
section
open Go.RowKit Go.Shelf
attribute [local go_sem] Oper.semAt_some
end
section
open Go.RowKit
theorem aAQ(a b)(w)(ra:ζ a)(rb:ζ b):μ ι 245 #[.int .i64 a,.int .i64 b] w λe w'=>e=.returned (.int .i64 ((a+b)/2))/\w'=w:=by obtain⟨p,q,h1,h2,⟨p1,p2⟩,⟨n,o⟩,h3⟩:=aHn ra rb;obtain⟨c,d⟩:=ra;obtain⟨f,j⟩:=rb;have E:=γ h3;have l: -9223372036854775808<=p+q/2:=Yo;have m:p+q/2<=9223372036854775807:=Yo;clear h3;go_in;go_wp2_with fail;go_ret;exact⟨Oa,β⟩
end
section
open Go.RowKit Go.Shelf
theorem aED{P:θ->Prop}{l}(h:∀x,x∈l->P x){k:η}{v}(e:(kI l)[k]?=ε v):P v:=h v ((OY l).mem_iff.1 (List.mem_iff_getElem?.2 ⟨k,e⟩))
theorem aEj{f:η->θ}{n}{x}(h:x∈nP f n):∃i,i<n/\x=f i:=by unfold nP at h;grind
variable{ao:Φ Addr}
theorem aPb{w:ο}{B}{cap}{xs}(h:w.ownsRow B 3 1 (.slice ao xs.length cap) xs.length ((kI xs).map (ω .i64)))(h0:0<xs.length):∃b,ao=ε ⟨b,0,δ⟩/\∀k v,(kI xs)[k]?=ε v->w.cell? ⟨b,k,δ⟩=ε (.int .i64 v):=by
 rcases h.2 with ⟨_,e⟩|⟨r,c,a,e,_,_,hc,_⟩
 .omega
 cases e;refine⟨r,β,λk v d=>?_⟩;have:=(h).cells β k (iY v) (by rw[Bu,d];rfl);rw[Dq,Ah] at this;exact this
def C2(p q:Addr)(x y:Value)(w:ο):Prop:=w.cell? p=ε x/\w.cell? q=ε y
theorem aFn(g:η)(lb)f(n)(w)(hn:1<=n)(hn2:n<=64)(hf:∀i,ζ (f i))(eg:∀args w,(Γ g args).run ι w=.ok (.enter g args) w)(hseq:ZQ g lb (nP f n) w):μ ι 219 #[.func (.func g) #[] lb] w λe w'=>∃m,R9 f n m/\e=.returned (.int .i64 m)/\Below w.heap.size w w':=by
 have C:=aFU g lb (nP f n) w (by rw[wF];exact hn2) eg hseq;clear hseq eg;have l:=γ hf;clear hf;go_in;go_wp2_with fail;refine C.mono ?_;rintro e O ⟨Q,t,rfl,h1,h2⟩;obtain⟨b,rfl,hc⟩:=aPb h1 (by rw[wF];omega);rw[wF] at*;obtain⟨q,D⟩:∃q:η,(n-1)/3=q:=⟨_,rfl⟩;have I:q<n:=Yo;obtain⟨x,hx⟩:∃x,(kI (nP f n))[q]?=ε x:=⟨_,Bf (by rw[VS,wF];exact I)⟩;obtain⟨y,hy⟩:∃y,(kI (nP f n))[n-1-q]?=ε y:=⟨_,Bf (by rw[VS,wF];omega)⟩;have o:=hc _ _ hx;have c:=hc _ _ hy;have J:ζ x:=aED (P:=ζ) (λz j=>by obtain⟨i,_,rfl⟩:=aEj j;exact N l i) hx;have L:ζ y:=aED (P:=ζ) (λz j=>by obtain⟨i,_,rfl⟩:=aEj j;exact N l i) hy;have M:=γ (show R9 f n ((x+y)/2) from by subst D;exact aEm hx hy);have K:=γ h2;obtain⟨p,A⟩:∃p:η,n-1-q=p:=⟨_,rfl⟩;rw[A] at c;have B:(n:θ)-1-(q:θ)=(p:θ):=Yo;have F:((n:θ)-1).tdiv 3=(q:θ):=by rw[Ir Yo];omega
 have V:p<n:=Yo;clear C h1 h2 hc hx hy;go_wp2_with fail;have X:IntKind.i64.wrap ((n:θ)-1)=(n:θ)-1:=by rw[Db];omega
 have Y:IntKind.i64.wrap (p:θ)=(p:θ):=by rw[Db];omega
 have R:0<=(p:θ)/\(p:θ)<(n:θ):=Yo;have T:0<=(q:θ)/\(q:θ)<(n:θ):=Yo;refine dY (S:=C2 ⟨b,q,δ⟩ ⟨b,p,δ⟩ (iY x) (iY y))
  [(0,false),(1,false),(2,false),(3,false),(4,false),(5,false),(6,false),(7,false),(8,false),(9,false),(10,false),(11,false),(12,true),(13,true)] [] Yl Yl ?_
 have a:C2 ⟨b,q,δ⟩ ⟨b,p,δ⟩ (iY x) (iY y) O.drew:=⟨o,c⟩;iterate 12
  refine bG (v:=?_) β (λ_ _ _ h=>h) Mq a ?_ ?_;rotate_left 1
  .intro Z d;obtain⟨k1,U⟩:=d;go_simp<;>exact rfl
  go_frame
 refine bD β (λK hK=>?_);go_simp;refine (aAQ x y _ J L).mono ?_;rintro e W ⟨rfl,rfl⟩;refine hK _ _ (λ_=>a) ?_;clear hK K;refine bD β (λK hK=>?_);go_simp;refine hK _ _ (λ_=>a) ?_;clear hK K;refine fZ ?_;clear o c a;obtain⟨m,s⟩:=yZ ((x+y)/2);rw[s] at M ⊢;clear s;go_wp2_with fail;go_ret;exact⟨m,N M,β,aY (N K)⟩
theorem UE:aTx 180:=by
 intro A n c f w p C hc hs;by_cases B:n=0
 .go_in;go_wp2_with fail;go_ret2;exact⟨0,8,Ab ⟨Yo,β,β⟩,β,Af _ _⟩
 have z:(((n:η):θ)==0)=false:=Mm;by_cases h1:64<n
 .have d:64<(n:θ):=Yo;have j:=γ p;go_in;go_wp2_with fail;go_ret2;exact⟨0,8,Ab ⟨Yo,β,β⟩,β,Af _ _⟩
 have d:(n:θ)<=64:=Yo;obtain⟨b,o,rfl,a⟩:=hs.rd Yo;have j:=γ p;go_in;go_wp2_with fail;refine (aGb (ε ⟨b,o,δ⟩) n c _).mono ?_;rintro e q ⟨rfl,s,k1,D⟩;have G:=aFn 246 #[iG w.heap.size] f n q Yo Yo (N j) (enters_of Tryz.func246 Yl β)
  (ZE w.heap.size b o n c f q Yo (s.cell Yo) (λi hi=>aP (N (γ a) i hi) k1))
 have l:=γ k1;go_wp2_with fail;refine G.mono ?_;rintro e F ⟨m,t,rfl,y⟩;go_wp2_with fail;go_ret2;exact⟨m,0,Aa ⟨Yo,Yo,β,N (γ t)⟩,β,N (γ ((N l).trans (y.mono (N l).size)))⟩
end
section
open Go.RowKit
theorem aAe(l)(w)(ao)(cap)(hl:l.length<=4)(hc:l.length<=cap)(hR:∀x,x∈l->ζ x)(hs:Sr w ao l.length cap (iF (gL l))):μ ι 180 #[.slice ao l.length cap] w λe w'=>∃E,e=.returned (.tuple #[.int .i64 (J7 l),.int .i64 E])/\Below w.heap.size w w':=by
 refine (UE ao l.length cap (gL l) w (F9 hR) Yo hc hs).mono ?_;rintro e w' ⟨m,E,hm,rfl,k⟩;have em:m=J7 l:=by
  rcases hm with ⟨h1,h2,_,h4⟩|⟨h1,_,h3⟩
  .rw[aEl h1 h2 h4,aHA]
  have:l=[]:=Ja Yo;rw[h3,this];rfl
 rw[em];exact⟨E,β,k⟩
def UsA(A:Act)(a b:η)(u v:Value)(i:η):Prop:=A.tmps.size=33/\A.defers=[]/\A.eval (.tmp 2)=ν ξ a/\A.eval (.tmp 4)=Ω (ε ⟨b,0,δ⟩)/\A.eval (.tmp 12)=u/\A.eval (.tmp 13)=ν ξ i/\A.eval (.tmp 7)=v
theorem aME(d:η->η->θ)b(a)(w)(ha:a<3)(hd4:∀s,ζ (d s a)):μ ι 124 #[aX (vV d) 0 12,aX (tF b) 0 4,.int .i64 (a)] w λe w'=>e=.returned (.int .i64 (J7 (qE b (λs=>d s a) 4)))/\Below w.heap.size w w':=by
 refine bC Tryz.func124 β 33 β Yd (λA hs hd hb=>?_);have b0:A.eval (.tmp 0)=aX (vV d) 0 12:=hb 0 _ β;have b1:A.eval (.tmp 1)=aX (tF b) 0 4:=hb 1 _ β;have b2:A.eval (.tmp 2)=ν ξ (a:θ):=hb 2 _ β;clear hb;refine aD (aG ?_);refine jO (Bl w) ?_;intro w1 H z1;refine jO H ?_;clear H;intro w2 H z2;refine qa ?_;refine aC<|aD<|qa ?_;refine aC<|aH<|aD<|qg (bE _ _ rfl ManyK.out Qv H.v1 Yo) ?_;refine qa ?_;refine aC<|aJ<|bR (λq A W=>∃(i:η) (v:Value),i<=4/\4-i<=q/\UsA A a w1.heap.size (aX (vV d) 0 12) v i/\Cx w W [fU w.heap.size 3 1 v (qE b (λs=>d s a) i).length ((qE b (λs=>d s a) i).map iV),vhI 33 w1.heap.size 4 4 (tF b)]) 4 ⟨0,ρ δ 0 0,Yo,Yo,⟨YA,YB,Qv,Qv,Qv,Qv,Qv⟩,H.f1.tl.add (Af _ _) (fU w.heap.size 3 1 (ρ δ 0 0) 0 []) (Am _ _ _ _) (λ_ e=>nomatch e)⟩ (λq B W hI=>?_);clear b0 b1 b2 hs hd H;obtain⟨i,v,hi,hr2,⟨hs,hd,b2,b4,b12,b13,b7⟩,H⟩:=hI;have hlen:=aAS b (λs=>d s a) i;refine aD (aG ?_);refine qa ?_;refine aC<|aH<|fB (λhc=>?_) (λhc=>?_)
 .have hin:i<4:=by have:=Xu hc;omega
  refine aR<|lS (λA Z=>∃v:Value,UsA A a w1.heap.size (aX (vV d) 0 12) v i/\Cx w Z [fU w.heap.size 3 1 v (qE b (λs=>d s a) (i+1)).length ((qE b (λs=>d s a) (i+1)).map iV),vhI 33 w1.heap.size 4 4 (tF b)]) ?_ (λC Z hI=>?_)
  .refine aJ<|aD<|qa ?_;refine qg ((nH _ _ _ _ β ArrK.out ManyK.out Qv β Qv β hin _).trans (by rw[UG d])) ?_;refine gQ H ?_;clear H;intro w3 H z3;refine qa ?_;refine gH H.a0 aZ (λj hj=>rfl) ?_;clear H;intro w4 H z4;refine aC<|aD ?_;iterate 2 refine qa ?_
   refine qg (aT (v:=χ (b i)) _ _ β OneK.out Qv H.v2 Yo (by unfold tF;rw[show 0+i*1=i by omega])) ?_;refine aC<|fB (λht=>?_) (λht=>?_)
   .refine aI ?_;iterate 2 refine qa ?_
    refine qg (bB _ _ _ _ β ArrK.out SizK.out Qv Qv β ha _) ?_;refine qg (aT (v:=ν ξ (d i a)) _ _ β OneK.out Qv H.v0 Yo (by show iV (d i (0+a*1))=_;rw[show 0+a*1=a by omega];rfl)) ?_;refine bI β Yw (λK hK=>BP _ _ β Qv ?_);intro w5 m5 k5 z5;replace H:=H.call k5;refine hK _ _ ?_;clear hK K;refine OE (bytes:=8) H.a1 (aTP m5) (aTO _ _) Ym Yo ?_;clear H;intro v7 w7 H;refine qa ?_;exact kL ⟨β,v7,⟨YA,YB,Qv,Qv,Qv,Qv,Qv⟩,by rw[aMY ht,Ag,Cb];exact H.tl⟩
   exact iE ⟨β,v,⟨YA,YB,Qv,Qv,Qv,Qv,Qv⟩,by rw[aMX ht];exact H.tl⟩
  clear b2 b4 b12 b13 b7 hs hd H;obtain⟨v2,⟨hs,hd,b2,b4,b12,b13,b7⟩,H⟩:=hI;refine aI (aG ?_);iterate 2 refine qa ?_
  exact aU ⟨4-(i+1),Yo,i+1,v2,Yo,Yo,⟨YA,YB,Qv,Qv,Qv,Ae Qv YC,Qv⟩,H⟩
 obtain rfl:i=4:=by have:=Xg hc;omega
 refine bL (dQ ?_);rw[II] at H;obtain⟨ta,tc,rfl,htc⟩:=dU H.o0;refine aD<|qa ?_;refine q_c (aAe (qE b (λs=>d s a) 4) _ ta tc Yo htc (λx hx=>NP hd4 4 x hx) (JQ H.o0)) ?_;rintro e w5 ⟨E,rfl,k5⟩;replace H:=H.call k5;refine⟨_,β,?_⟩;iterate 5 refine qa ?_
 refine aC<|aD ?_;iterate 2 refine qa ?_
 refine aC ?_;exact aQ (aN YB (bS β Qv) ⟨β,H.bel⟩)
theorem IB(x)(w):(Γ 107 #[x]).run ι w=.ok (.enter 107 #[x]) w:=Yh
theorem YK(x y)(w):(Γ 50 #[x,y]).run ι w=.ok (.enter 50 #[x,y]) w:=Yh
theorem aFf(x)(w):(Γ 97 #[x]).run ι w=.ok (.enter 97 #[x]) w:=Yh
theorem aGB(f:η->θ)(k):ζ (qX f k):=by
 cases k with
 |zero=>exact (⟨Yc,Yc⟩:ζ 0)
 |succ k=>exact FK _
structure PkOK (ax:η->St):Prop where
 ax:∀a,(ax a).Ok
variable{ax:η->St}{r:Rl}
theorem aTi(h:PkOK ax)(i):ζ (gL (qH ax r) i):=by
 have z:∀x:θ,(x=0\/x=1)->ζ x:=λx h=>by rcases h with rfl|rfl<;>exact⟨Yc,Yc⟩
 have hb:∀b:Bool,ζ (if b then 1 else 0):=λb=>by cases b<;>exact⟨Yc,Yc⟩
 have hin:ζ (IP r.I):=by unfold IP;cases r.I 0<;>cases r.I 1<;>cases r.I 2<;>cases r.I 3<;>exact⟨Yc,Yc⟩
 rcases Ar i 24 with hi|hi
 .match i,hi with
  |0,_=>exact (h.ax 0).X
  |1,_=>exact (h.ax 0).V
  |2,_=>exact (h.ax 0).P00
  |3,_=>exact (h.ax 0).P01
  |4,_=>exact (h.ax 0).P11
  |5,_=>exact hb _
  |6,_=>exact (h.ax 0).M
  |7,_=>exact (h.ax 1).X
  |8,_=>exact (h.ax 1).V
  |9,_=>exact (h.ax 1).P00
  |10,_=>exact (h.ax 1).P01
  |11,_=>exact (h.ax 1).P11
  |12,_=>exact hb _
  |13,_=>exact (h.ax 1).M
  |14,_=>exact (h.ax 2).X
  |15,_=>exact (h.ax 2).V
  |16,_=>exact (h.ax 2).P00
  |17,_=>exact (h.ax 2).P01
  |18,_=>exact (h.ax 2).P11
  |19,_=>exact hb _
  |20,_=>exact (h.ax 2).M
  |21,_=>exact hin
  |22,_=>exact aGB _ _
  |23,_=>exact aGB _ _
  |k+24,h=>exact absurd h Yo
 have:gL (qH ax r) i=0:=by unfold gL;rw[Bh,Dh (by rw[aEu];exact hi)];rfl
 grind
theorem aEt(ax:η->St)(r):∀i,zB ax r i<256:=λi=>by unfold zB bt;omega
theorem aHS{x}:ψ (bF (zB ax r)) (8*x)++ψ (bF (bt (gL (qH ax r) x) 8)) 8=ψ (bF (zB ax r)) (8*(x+1)):=by
 rw[mH];refine iW (λj a=>?_);by_cases c:j<8*x
 .rw[if_pos c]
 rw[if_neg c];show bV (bt _ 8 (j-8*x))=bV (bt ((qH ax r).getD (j/8) 0) 8 (j%8));rw[show j/8=x by omega,show j%8=j-8*x by omega];rfl
theorem YV(n)(nv)(w)(hok:PkOK n.ax):μ ι 104 #[jX n nv] w λe w'=>e=.returned (.int .i64 (dgN n.ax n.rl))/\Below w.heap.size w w':=by
 refine bC Tryz.func104 β 20 β Yd (λA hs hd hb=>?_);have b0:A.iQ 0=jX n nv:=hb 0 _ β;refine aD (aG ?_);refine Zb (λY P k1 z1=>?_);refine Yx ?_;refine aC<|aD<|Yx ?_;refine aC<|aH<|aD<|Yx ?_;refine bI β Yw (λK hK=>bM _ 107 _ _ β Yf (IB _ _) (FT n nv _) ?_);rintro e C ⟨D,c,rfl,F,s⟩;have n2:=s.size;have Q:=P.below s;refine⟨_,β,hK _ _ ?_⟩;iterate 2 refine Yx ?_
 refine aC<|aJ<|bR (λr a W=>∃(x:η) (v:Value),x<=24/\24-x<=r/\a.tmps.size=20/\a.defers=[]/\a.iQ 7=ρ D 24 c/\a.iQ 8=iY ((24:η):θ)/\a.iQ 3=v/\a.iQ 9=iY (x:θ)/\W.ownsRow Y.heap.size 3 1 (ρ D 24 c) 24 (ψ (iF (gL (qH n.ax n.rl))) 24)/\W.ownsRow C.heap.size 5 1 v (8*x) (ψ (bF (zB n.ax n.rl)) (8*x))/\nS w W/\C.heap.size<=W.heap.size) 24 ⟨0,_,Yo,Yo,YA,YB,Yf,Yf,Yf,Yf,F,Am _ _ _ _,k1.trans (s.mono Yo),Yo⟩ (λr B W J=>?_);obtain⟨x,v,hx,hr,hs,hd,b7,b8,b3,b9,I,y,kB,hW⟩:=J;by_cases hin:x<24
 .refine aD (aG ?_);refine Yx ?_;refine aC<|aH<|aS Yf (aR ?_);refine aH (aJ ?_);refine aD ?_;obtain⟨b,S,rfl,j⟩:=wH I Yo;refine Yq (dF _ _ β (a:=⟨b,S,δ⟩) (n:=24) (cap:=c) Yb Yb (i:=x) β hin _) ?_;refine Yq (dG _ β Yf (by rw[kC];exact j x hin)) ?_;refine Yx ?_;refine aC<|aI ?_;iterate 2 refine Yx ?_
  refine bI β Yw (λK hK=>eB _ 50 _ _ _ β Yf (aL _ _) (YK _ _ _) (Y7 _ 8 _ (aTi hok x) Yc) ?_);rintro e z ⟨u,rfl,p,d⟩;obtain⟨uo,uc,rfl,T,L⟩:=iT p;have t:=d.size;have m:=bO I d;have q:=bO y d;refine⟨_,β,hK _ _ ?_⟩;refine bI β Yw (λK hK=>?_);refine⟨VX _ _ _ β C.heap.size Yo v _ _ Yf q _ 8 _ _ Yf T (λi _=>rfl) Yo ?_⟩;intro U Z f l;rw[aHS] at f;have R:=l.size;have o:=aSu m l (λ_ e=>(F.lt _ e).2);refine hK _ _ ?_;refine Yx ?_;refine fK<|aI ?_;iterate 2 refine Yx ?_
  exact aU ⟨24-(x+1),Yo,x+1,_,Yo,Yo,YA,YB,Yb,Yb,Yf,(Ye β).trans YC,o,f,(kB.trans (d.mono Yo)).trans (l.mono Yo),Yo⟩
 refine aD (aG ?_);refine Yx ?_;obtain rfl:x=24:=Yo;refine aC<|aH<|aO Yf (bL (dQ ?_));refine aD ?_;obtain⟨X,V,rfl,O⟩:=dU y;refine Yx ?_;refine bI β Yw (λK hK=>bM _ 97 _ _ β Yf (aFf _ _) (SI X 192 V (zB n.ax n.rl) _ (aEt n.ax n.rl) Yo (wH y)) ?_);rintro e z ⟨rfl,d⟩;have t:=d.size;refine⟨_,β,hK _ _ ?_⟩;refine Yx ?_;refine aC<|aQ<|aN YB (bS rfl Yf) ⟨rfl,kB.trans (d.mono Yo)⟩
end
section
open Go.RowKit
theorem aFe(x)(w):(Γ 183 #[x]).run ι w=.ok (.enter 183 #[x]) w:=Yh
variable{f:Operand->Value}{o:Oper}
theorem aPs(x)(ho:o.op=.convert 3 83 x){v}(hx:f x=.int .i64 v)(w):(Ξ f o).run ι w=.ok (.value (.int .u64 (v%18446744073709551616))) w:=by go_simp;rfl
variable{u:θ}
theorem aLJ{s:η}(x y)(ho:o.op=.binOp .shr 83 x y 3)(hx:f x=.int .u64 u)(hy:f y=.int .i64 s)(hs:s<64)(w):(Ξ f o).run ι w=.ok (.value (.int .u64 (u/2^s))) w:=Yjq
theorem aPq(x)(ho:o.op=.convert 83 5 x)(hx:f x=.int .u64 u)(w):(Ξ f o).run ι w=.ok (.value (bV (u%256).toNat)) w:=by go_simp;show ω .u8 (u%256)=ν .u8 ((u%256).toNat:θ);grind
variable{x:η}
theorem aJG(v)(hx:x<8):(v%18446744073709551616/2^(56-8*x)%256).toNat=bt v 8 x:=by
 congr 1
 match x,hx with
 |0,_=>show v%18446744073709551616/72057594037927936%256=v/72057594037927936%256;omega
 |1,_=>show v%18446744073709551616/281474976710656%256=v/281474976710656%256;omega
 |2,_=>show v%18446744073709551616/1099511627776%256=v/1099511627776%256;omega
 |3,_=>show v%18446744073709551616/4294967296%256=v/4294967296%256;omega
 |4,_=>show v%18446744073709551616/16777216%256=v/16777216%256;omega
 |5,_=>show v%18446744073709551616/65536%256=v/65536%256;omega
 |6,_=>show v%18446744073709551616/256%256=v/256%256;omega
 |7,_=>show v%18446744073709551616/1%256=v/1%256;omega
variable{Q:Exit->Act->ο->Prop}
theorem aQG(w){a}{K:Act->ο->Prop}(x)(ho:o.op=.buildSlice 65 1 #[(0,x)]){g}(hx:a.eval x=bV g)(h:∀w',Vh 5 w' w.heap.size 1 1 (λ_=>bV g)->Below w.heap.size w w'->w'.heap.size=w.heap.size+1->K (a.put o.dst (.slice (ε ⟨w.heap.size,0,δ⟩) 1 1)) w'):WpI ι o a w K Q:=by
 have e:(Ξ a.eval o).run uC w=.ok (.value (AZ w.heap.size 1 1)) (w.alloc (σ #[bV g] 5)):=by generalize a.eval=f at hx;unfold bV at hx ⊢;go_simp
 refine⟨?_⟩;unfold Oper.wp;rw[e];exact (h (w.alloc (σ #[bV g] 5)) (Cf (λ_=>bV g) 1 Yc Mr) (bU _ _) (fA _ _))
theorem aOa{ax:η->St}{r}{i}(hx:x<8):ψ (bF (zB ax r)) (8*i+x)++ψ (λ_=>bV (bt (gL (qH ax r) i) 8 x)) 1=ψ (bF (zB ax r)) (8*i+(x+1)):=by
 rw[mH];refine iW (λj a=>?_);by_cases c:j<8*i+x
 .rw[if_pos c]
 rw[if_neg c];show bV (bt (gL (qH ax r) i) 8 x)=bV (bt ((qH ax r).getD (j/8) 0) 8 (j%8));rw[show j/8=i by omega,show j%8=x by omega];rfl
theorem aFa(ax:η->St)(r)(vo)(vc)(w)(hsr:Sr w vo 24 vc (iF (gL (qH ax r)))):μ ι 126 #[.slice vo 24 vc] w λe w'=>e=.returned (.int .i64 (dgN ax r))/\Below w.heap.size w w':=by
 obtain⟨y,rfl,hy⟩:∃y,vo=ε y/\∀i,i<24->w.cell? (y.add i)=ε (iY (gL (qH ax r) i)):=by
  rcases hsr with ⟨_,e,_⟩|⟨y,e,hc⟩
  .exact absurd e Yc
  exact⟨y,e,λi hi=>hc i hi⟩
 refine bC Tryz.func126 β 28 β Yd (λA hs hd hb=>?_);have b0:=hb 0 _ β;refine aD (aG ?_);refine Yx ?_;refine aC<|aD<|Yx ?_;refine aC<|aH<|aD ?_;iterate 3 refine Yx ?_
 refine aC<|aJ<|bR (λq A W=>∃(i:η) (v:Value),i<=24/\24-i<=q/\A.tmps.size=28/\A.defers=[]/\A.iQ 7=ρ (ε y) 24 vc/\A.iQ 8=iY ((24:η):θ)/\A.iQ 9=iY (i:θ)/\A.iQ 3=v/\W.ownsRow w.heap.size 5 1 v (8*i) (ψ (bF (zB ax r)) (8*i))/\nS w W) 24 ⟨0,_,Yo,Yo,YA,YB,Yf,Yf,Yf,Yf,Am _ _ _ _,Af _ _⟩ (λq B W t=>?_);obtain⟨i,v,hi,P,hs,hd,I,J,L,F,j,kB⟩:=t;have O:=kB.size;by_cases hin:i<24
 .refine aD (aG ?_);refine Yx ?_;refine aC<|aH (aS Yf (aR ?_));refine aH (aJ ?_);refine aD<|Yq (dF _ _ rfl (a:=y) (n:=24) (cap:=vc) Yb Yb (i:=i) rfl hin _) ?_;refine Yq (dG _ β Yf (aP (hy i hin) kB)) ?_;refine Yx ?_;refine aC<|aD<|Yx ?_;refine aC<|aJ<|bR (λq A W=>∃(x:η) (v:Value),x<=8/\8-x<=q/\A.tmps.size=28/\A.defers=[]/\A.iQ 7=ρ (ε y) 24 vc/\A.iQ 8=iY ((24:η):θ)/\A.iQ 9=iY (i:θ)/\A.iQ 5=iY (gL (qH ax r) i)/\A.iQ 6=iY (56-8*(x:θ))/\A.iQ 3=v/\W.ownsRow w.heap.size 5 1 v (8*i+x) (ψ (bF (zB ax r)) (8*i+x))/\nS w W) 8 ⟨0,v,Yo,Yo,YA,YB,Yb,Yb,Yb,Yf,Yf,Yb,j,kB⟩ (λq3 B3 W3 z=>?_);obtain⟨x,Y,hx,Q,hs,hd,I,J,L,b5,b6,F,j,f⟩:=z;have D:=f.size;by_cases c:x<8
  .refine aH<|aD (aG ?_);refine Yx ?_;refine Yq (fG (b:=true) _ _ β Yf (aL _ _) (Xt Yo) _) ?_;refine aC<|aS Yf (aR ?_);refine aH (aJ ?_);refine aI ?_;iterate 2 refine Yx ?_
   refine Yq (aPs _ β Yf _) ?_;refine Yx ?_;refine Yq (aLJ (s:=56-8*x) _ _ β Yf ((Ye β).trans (by rw[show (56-8*(x:θ))=((56-8*x:η):θ) by omega])) Yo _) ?_;refine Yq ((aPq _ β Yf _).trans (by rw[aJG _ c])) ?_;refine bI β Yw (λK hK=>aQG _ _ β Yf (λa0 C m a2=>hK _ _ ?_));have p:=bO j m;refine bI β Yw (λK hK=>?_);refine⟨VX _ _ _ β w.heap.size Yo Y _ _ Yf p _ 1 1 _ Yf (Ab ⟨_,β,λi hi=>by rw[kC,Ah];exact C.cell hi⟩) (λi _=>rfl) Yo ?_⟩;intro X a1 d o;have T:=o.size;rw[aOa c] at d;refine hK _ _ ?_;refine Yx ?_;refine fK<|aI<|Yx ?_;refine Yq (kT _ _ β Yf (aL _ _) Yo Yo _) ?_;refine Yx ?_;exact aU ⟨8-(x+1),Yo,x+1,_,Yo,Yo,YA,YB,Yb,Yb,Yb,Yb,(Ye β).trans Ov,Yf,d,(f.trans (m.mono Yo)).trans (o.mono Yo)⟩
  refine aH<|aD (aG ?_);refine Yx ?_;refine Yq (fG (b:=false) _ _ β Yf (aL _ _) (Xf Yo) _) ?_;obtain rfl:x=8:=Yo;refine aC<|aO Yf (bL (aJs ?_));refine aI ?_;iterate 2 refine Yx ?_
  exact aU ⟨24-(i+1),Yo,i+1,_,Yo,Yo,YA,YB,Yb,Yb,(Ye β).trans YC,Yb,j,f⟩
 refine aD (aG ?_);refine Yx ?_;obtain rfl:i=24:=Yo;refine aC<|aH (aO Yf (bL (dQ ?_)));obtain⟨U,V,rfl,R⟩:=dU j;refine aD<|Yx ?_;refine bI β Yw (λK hK=>bM _ 183 _ _ β Yf (aFe _ _) (aAg U (8*24) V (zB ax r) _ (aEt ax r) Yc (wH j)) ?_);rintro e Z ⟨rfl,l⟩;have S:=l.size;refine⟨_,β,hK _ _ ?_⟩;refine Yx ?_;refine aC ?_;exact aQ (aN YB (bS β Yf) ⟨β,kB.trans (l.mono Yo)⟩)
variable{b:η}
theorem aEs{V}{base}(m:Vh 3 V b 1 1 (λ_=>iV u))(h:base<=b):V.ownsRow base 3 1 (.slice (ε ⟨b,0,δ⟩) 1 1) 1 (ψ (iF (gL [u])) 1):=Vh.owns (m.congr (λi hi=>by match i,hi with|0,_=>rfl)) h
section
variable {n:Nd} {l:List Ms} {v:Value} {i x:η} {u:η->θ} {a:η->St}
theorem aQd(hi:i<4)(hx:x<3):∀j,j<74->stW (ndF (NA n (wP n l x i) u a) v) (0+55+i*3+x*1) (.int .i64 (yS n l i (n.di i x) (3*i+x) 12)) j=ndF (NA n (wP n l x (i+1)) u a) v j:=by rw[<-aNy hi];exact aMC _ _ _ i x hi hx
variable{g:η->η->θ}
theorem aEI(hx:x<3):∀j,j<74->stW (ndF (NA n g (wK n l x) a) v) (0+67+x*1) (.int .i64 (J7 (qE n.rl.I (λs=>decG n l s x) 4))) j=ndF (NA n g (wK n l (x+1)) a) v j:=by rw[<-aQv];exact aMD _ _ _ x hx
theorem aQj(hx:x<3):∀j,j<74->stP (ndF (NA n (wP n l x 4) u (uN n l x)) v) (0+6+x*7) 7 (fJ (decA n l x)) j=ndF (NA n (wP n l (x+1) 0) u (uN n l (x+1))) v j:=by rw[<-aNA, <-aDH];exact vQ _ _ _ x hx
theorem aQi(hx:x<3):∀j,j<74->stP (ndF (NA n g u (uN n l x)) v) (0+6+x*7) 7 (fJ (decA n l x)) j=ndF (NA n g u (uN n l (x+1))) v j:=by rw[<-aDH];exact vQ _ _ _ x hx
end
abbrev dcF(n:Nd)(l:List Ms)(I:η):Nd:={ n with ag:=decG n l,us:=decU n l,ax:=decA n l,dg:=decD n l,he:=λs=>if s=I then decD n l else n.he s }
def SAt(w:ο)(b:η)(s:St):Prop:=w.heap[b]?=ε (σ #[ν ξ s.X,ν ξ s.V,ν ξ s.P00,ν ξ s.P01,ν ξ s.P11,χ s.B,ν ξ s.M] 31 (0,0))
variable{s:St}{w:ο}
theorem SAt.c0(h:SAt w b s):w.cell? ⟨b,0,δ⟩=ε (.int .i64 s.X):=by unfold φ;rw[h];rfl
theorem SAt.c1(h:SAt w b s):w.cell? ⟨b,1,δ⟩=ε (.int .i64 s.V):=by unfold φ;rw[h];rfl
theorem SAt.c2(h:SAt w b s):w.cell? ⟨b,2,δ⟩=ε (.int .i64 s.P00):=by unfold φ;rw[h];rfl
theorem SAt.c3(h:SAt w b s):w.cell? ⟨b,3,δ⟩=ε (.int .i64 s.P01):=by unfold φ;rw[h];rfl
theorem SAt.c4(h:SAt w b s):w.cell? ⟨b,4,δ⟩=ε (.int .i64 s.P11):=by unfold φ;rw[h];rfl
theorem SAt.c5(h:SAt w b s):w.cell? ⟨b,5,δ⟩=ε (.bool s.B):=by unfold φ;rw[h];rfl
theorem SAt.c6(h:SAt w b s):w.cell? ⟨b,6,δ⟩=ε (.int .i64 s.M):=by unfold φ;rw[h];rfl
theorem SAt.free(h:SAt w b s)(i):w.frozen? ⟨b,i,δ⟩=false:=by unfold SAt at h;simp[World.frozen?,h]
theorem SAt.cs(h:SAt w b s):type_of%h.c0/\type_of%h.c1/\type_of%h.c2/\type_of%h.c3/\type_of%h.c4/\type_of%h.c5/\type_of%h.c6:=⟨h.c0,h.c1,h.c2,h.c3,h.c4,h.c5,h.c6⟩
theorem SAt.fs(h:SAt w b s):type_of%(h.free 0)/\type_of%(h.free 1)/\type_of%(h.free 2)/\type_of%(h.free 3)/\type_of%(h.free 4)/\type_of%(h.free 5)/\type_of%(h.free 6):=⟨h.free 0,h.free 1,h.free 2,h.free 3,h.free 4,h.free 5,h.free 6⟩
theorem SAt.lt(h:SAt w b s):b<w.heap.size:=Cq h
variable{w':ο}
theorem SAt.same(h:SAt w b s)(e:w'.heap[b]?=w.heap[b]?):SAt w' b s:=e.trans h
theorem SAt.below(h:SAt w b s)(k:Below w.heap.size w w'):SAt w' b s:=h.same (k.block b h.lt)
variable{z:η}
theorem SAt.kept(h:SAt w b s)(k:κ z w w')(hz:b≠z):SAt w' b s:=h.same (k.block b h.lt hz)
theorem SAt.drew(h:SAt w b s):SAt w.drew b s:=h
theorem SAt.drewN(h:SAt w b s)(k):SAt (w.drewN k) b s:=h
theorem SAt.s0(h:SAt w b s)(u):SAt (w.setCell ⟨b,0,δ⟩ (.int .i64 u)) b { s with X:=u }:=by exact Bz w b 0 _ _ (iY u) h
theorem SAt.s1(h:SAt w b s)(u):SAt (w.setCell ⟨b,1,δ⟩ (.int .i64 u)) b { s with V:=u }:=by exact Bz w b 1 _ _ (iY u) h
theorem SAt.s2(h:SAt w b s)(u):SAt (w.setCell ⟨b,2,δ⟩ (.int .i64 u)) b { s with P00:=u }:=by exact Bz w b 2 _ _ (iY u) h
theorem SAt.s3(h:SAt w b s)(u):SAt (w.setCell ⟨b,3,δ⟩ (.int .i64 u)) b { s with P01:=u }:=by exact Bz w b 3 _ _ (iY u) h
theorem SAt.s4(h:SAt w b s)(u):SAt (w.setCell ⟨b,4,δ⟩ (.int .i64 u)) b { s with P11:=u }:=by exact Bz w b 4 _ _ (iY u) h
theorem SAt.s5(h:SAt w b s)(u):SAt (w.setCell ⟨b,5,δ⟩ (.bool u)) b { s with B:=u }:=by exact Bz w b 5 _ _ (χ u) h
theorem SAt.s6(h:SAt w b s)(u):SAt (w.setCell ⟨b,6,δ⟩ (.int .i64 u)) b { s with M:=u }:=by exact Bz w b 6 _ _ (iY u) h
theorem SAt.new(w:ο)(s):SAt (w.alloc (.cells #[.int .i64 s.X,.int .i64 s.V,.int .i64 s.P00,.int .i64 s.P01,.int .i64 s.P11,.bool s.B,.int .i64 s.M] 31)) w.heap.size s:=by show (w.heap.push _)[w.heap.size]?=_;rw[Bt]
theorem SAt.put(h:SAt w b s)(t):∃w',w'=(((((((w.setCell ⟨b,0,δ⟩ (.int .i64 t.X)).setCell ⟨b,1,δ⟩ (.int .i64 t.V)).setCell ⟨b,2,δ⟩ (.int .i64 t.P00)).setCell ⟨b,3,δ⟩ (.int .i64 t.P01)).setCell ⟨b,4,δ⟩ (.int .i64 t.P11)).setCell ⟨b,5,δ⟩ (.bool t.B)).setCell ⟨b,6,δ⟩ (.int .i64 t.M))/\SAt w' b t/\κ b w w':=by
 refine⟨_,β,?_,?_⟩
 .exact (((((((h.s0 t.X).s1 t.V).s2 t.P00).s3 t.P01).s4 t.P11).s5 t.B).s6 t.M)
 exact (((((((bN w b 0 _).trans (bN _ b 1 _) (Aa β)).trans (bN _ b 2 _) (Aa β)).trans (bN _ b 3 _) (Aa β)).trans (bN _ b 4 _) (Aa β)).trans (bN _ b 5 _) (Aa β)).trans (bN _ b 6 _) (Aa β))
abbrev qQ(s:St):Value:=.agg #[ν ξ s.X,ν ξ s.V,ν ξ s.P00,ν ξ s.P01,ν ξ s.P11,χ s.B,ν ξ s.M]
abbrev tnV(t:Tn):Value:=.agg #[ν ξ t.Dt,ν ξ t.Q,ν ξ t.R,ν ξ t.G]
abbrev I4(b:η):Value:=.agg #[Ω (ε ⟨b,0,δ⟩)]
def HbAt(w:ο)(bh b:η):Prop:=w.heap[bh]?=ε (σ #[Ω (ε ⟨b,0,δ⟩)] 263 (0,0))
variable{bh:η}
theorem HbAt.c0(h:HbAt w bh b):w.cell? ⟨bh,0,δ⟩=ε (.pointer (ε ⟨b,0,δ⟩)):=by unfold φ;rw[h];rfl
theorem HbAt.lt(h:HbAt w bh b):bh<w.heap.size:=Cq h
theorem HbAt.same(h:HbAt w bh b)(e:w'.heap[bh]?=w.heap[bh]?):HbAt w' bh b:=e.trans h
theorem HbAt.kept(h:HbAt w bh b)(k:κ z w w')(hz:bh≠z):HbAt w' bh b:=h.same (k.block bh h.lt hz)
theorem HbAt.new(w:ο)(b):HbAt (w.alloc (.cells #[.pointer (ε ⟨b,0,δ⟩)] 263)) w.heap.size b:=by show (w.heap.push _)[w.heap.size]?=_;rw[Bt]
theorem uI(h:SAt w b s):∃w1,w1=w.alloc (.cells #[.pointer (ε ⟨b,0,δ⟩)] 263)/\HbAt w1 w.heap.size b/\SAt w1 b s/\κ b w w1/\w.heap.size≠b:=
 ⟨_,rfl,HbAt.new w b,h.below (bU w _),aDG w _,by have:=h.lt;omega⟩
structure Hd (bh b bo:η) (s:St) (w:ο):Prop where
 hand:HbAt w bh b
 old:SAt w bo s
 n1:bh≠b
 n2:bo≠b
theorem Hd.kept{bo}(h:Hd bh b bo s w)(k:κ b w w'):Hd bh b bo s w':=⟨h.hand.kept k h.n1,h.old.kept k h.n2,h.n1,h.n2⟩
theorem Hd.drew{bo}(h:Hd bh b bo s w):Hd bh b bo s w.drew:=⟨h.hand,h.old,h.n1,h.n2⟩
def St.nil:St:=⟨0,0,0,0,0,false,0⟩
def St.bend(s:St)(x:Bool):St:={ s with B:=s.B||x }
def St.setX(s:St)(x:θ):St:={ s with X:=x }
def St.setV(s:St)(x:θ):St:={ s with V:=x }
def St.setP00(s:St)(x:θ):St:={ s with P00:=x }
def St.setP01(s:St)(x:θ):St:={ s with P01:=x }
def St.setP11(s:St)(x:θ):St:={ s with P11:=x }
def St.setM(s:St)(x:θ):St:={ s with M:=x }
theorem yL(h:SAt w b s):∃w2,w2=(w.alloc (.cells #[.pointer (ε ⟨b,0,δ⟩)] 263)).alloc (.cells #[.int .i64 s.X,.int .i64 s.V,.int .i64 s.P00,.int .i64 s.P01,.int .i64 s.P11,.bool s.B,.int .i64 s.M] 31)/\Hd w.heap.size b (w.heap.size+1) s w2/\SAt w2 b s/\κ b w w2:=by
 obtain⟨a,e1,c,j,k1,f⟩:=uI h;have l:a.heap.size=w.heap.size+1:=by rw[e1];exact fA w _
 have h2:=SAt.new a s;have d:=bU a (σ #[iY s.X,iY s.V,iY s.P00,iY s.P01,iY s.P11,χ s.B,iY s.M] 31);rw[l] at h2;have m:=h.lt;refine⟨_,by rw[<-e1],⟨c.same (d.block _ c.lt),h2,f,Yo⟩,j.below d,k1.trans (aDG a (σ #[iY s.X,iY s.V,iY s.P00,iY s.P01,iY s.P11,χ s.B,iY s.M] 31)) (Aa β)⟩
theorem SAt.pX(h:SAt w b s)(u):∃w',w'=w.setCell ⟨b,0,δ⟩ (.int .i64 u)/\SAt w' b (s.setX u)/\κ b w w':=⟨_,rfl,h.s0 u,bN w b 0 _⟩
theorem SAt.pV(h:SAt w b s)(u):∃w',w'=w.setCell ⟨b,1,δ⟩ (.int .i64 u)/\SAt w' b (s.setV u)/\κ b w w':=⟨_,rfl,h.s1 u,bN w b 1 _⟩
theorem SAt.pP00(h:SAt w b s)(u):∃w',w'=w.setCell ⟨b,2,δ⟩ (.int .i64 u)/\SAt w' b (s.setP00 u)/\κ b w w':=⟨_,rfl,h.s2 u,bN w b 2 _⟩
theorem SAt.pP01(h:SAt w b s)(u):∃w',w'=w.setCell ⟨b,3,δ⟩ (.int .i64 u)/\SAt w' b (s.setP01 u)/\κ b w w':=⟨_,rfl,h.s3 u,bN w b 3 _⟩
theorem SAt.pP11(h:SAt w b s)(u):∃w',w'=w.setCell ⟨b,4,δ⟩ (.int .i64 u)/\SAt w' b (s.setP11 u)/\κ b w w':=⟨_,rfl,h.s4 u,bN w b 4 _⟩
def St.setB(s:St)(x:Bool):St:={ s with B:=x }
theorem SAt.pB(h:SAt w b s)(u):∃w',w'=w.setCell ⟨b,5,δ⟩ (.bool u)/\SAt w' b (s.setB u)/\κ b w w':=⟨_,rfl,h.s5 u,bN w b 5 _⟩
theorem SAt.pM(h:SAt w b s)(u):∃w',w'=w.setCell ⟨b,6,δ⟩ (.int .i64 u)/\SAt w' b (s.setM u)/\κ b w w':=⟨_,rfl,h.s6 u,bN w b 6 _⟩
theorem aOS(a b)(ha:ζ a)(hb:ζ b)(w):μ ι 277 #[.int .i64 a,.int .i64 b] w λe w'=>e=.returned (.tuple #[.int .i64 (gD (zA a b)),.bool (fO (zA a b))])/\w'=w:=by
 have j:=γ ha;have l:=γ hb;have p0:=(GA ha hb).1;have p1:=(GA ha hb).2;obtain⟨q,I⟩:=jB ha;obtain⟨s,J⟩:=jB hb;obtain⟨t,y⟩:=ha;obtain⟨z,A⟩:=hb;go_in;go_wp2_with fail;refine (P5 a (N j) _).mono ?_;rintro e B ⟨rfl,rfl⟩;go_wp2_with fail;refine (P5 b (N l) _).mono ?_;rintro e C ⟨rfl,rfl⟩;go_wp2_with fail;refine (aHG (absZ a) (absZ b) q Yo s Yo _).mono ?_;rintro e D ⟨rfl,rfl⟩;go_wp2_with fail;have f:=aKw a b;generalize m:(!decide (a<0)==decide (b<0))=n;rw[show negZ a b=n from m] at f;generalize absZ a*absZ b=p at*;have HQ:=γ f;refine (aKl _ _).mono ?_;rintro e F ⟨rfl,rfl⟩;obtain⟨c,h1⟩:=aKk n;generalize halfZ n=h at*;go_wp2_with (simp only[add64_0 (p%18446744073709551616) h Yo c])
 .have ho:=aKz p h p0 c (by assumption);refine (UI n _).mono ?_;rintro e o ⟨rfl,rfl⟩;go_wp2_with fail;go_ret2;exact⟨by rw[N HQ,(NF n _ Yo).1,(NF n _ Yo).2];rfl,rfl⟩
 have d:=aKy p h p0 c (by assumption);rw[d.1];refine (vP n _ Yo d.2 _).mono ?_;rintro e o ⟨rfl,rfl⟩;go_wp2_with fail;go_ret2;exact⟨by rw[N HQ];rfl,rfl⟩
theorem U7(b)(s)(n)(y)(w)(h:SAt w b s):μ ι 274 #[I4 b,.int .i64 n,.bool y] w λe w'=>e=.returned (.int .i64 n)/\SAt w' b (s.bend y)/\κ b w w':=by
 obtain⟨p,e1,f,a,k1,l⟩:=uI h;have o:=f.c0;have c5:=a.c5;have m:=a.free 5;have H:=γ a;have E1:=γ e1;have j:=γ k1;clear h a f e1 k1 l;have G:(∃x,x=s.B):=⟨_,β⟩;obtain⟨x,c⟩:=G;rw[<-c] at c5;have d:=γ c;clear c;cases x;rotate_left;rotate_left;all_goals
  go_in;go_wp2_with fail;rw[<-N E1];go_region;go_wp2_with fail;go_ret;refine⟨β,?_,((N j).trans (oZ _) (Aa β)).trans (bN _ _ _ _) (Aa β)⟩;have:=(N H).s5 (s.B||y);rw[<-N d] at this;unfold St.bend;rw[<-N d];exact this
theorem nY(b)(s)(a c)(w)(ha:ζ a)(hc:ζ c)(h:SAt w b s):μ ι 248 #[I4 b,.int .i64 a,.int .i64 c] w λe w'=>e=.returned (.int .i64 (kH a c))/\SAt w' b (s.bend (Z8 a c))/\κ b w w':=by
 obtain⟨B,e1,m,o,k1,n⟩:=uI h;have q:=γ ha;have t:=γ hc;have H:=γ o;have E1:=γ e1;have y:=γ k1;have A:=γ n;have j:(λu=>HbAt u w.heap.size b) B.drew:=m;clear ha hc h m e1 o k1 n;go_in;go_wp2_with fail;rw[<-N E1];refine dY (S:=λu=>HbAt u w.heap.size b) [(0,false),(1,false),(2,false),(3,true),(4,false),(5,false),(6,true),(7,true)] [] Yl Yl ?_;iterate 3
  refine bG (v:=?_) β (λ_ _ _ h=>h) Mq j ?_ ?_;rotate_left 1
  .intro C f;have D:=HbAt.c0 f;go_simp<;>exact rfl
  go_frame
 refine bD β (λK hK=>?_);go_simp;refine (aNv a c (N q) (N t) _).mono ?_;rintro e F ⟨rfl,rfl⟩;refine hK _ _ (λ_=>j) ?_;clear hK K;iterate 2
  refine bG (v:=?_) β (λ_ _ _ h=>h) Mq j ?_ ?_;rotate_left 1
  .intro C f;clear f;go_simp<;>exact rfl
  go_frame
 refine bD β (λK hK=>?_);go_simp;refine (U7 b s _ _ _ (SAt.drewN (N H) _)).mono ?_;rintro e I ⟨rfl,h3,l⟩;have d:=HbAt.kept j l (N A);refine hK _ _ (λ_=>d) ?_;have p:=γ h3;have z:=γ (((N y).trans (jV _ 1) (Aa β)).trans l (Aa β));clear h3 l hK K j;refine bD β (λK hK=>?_);go_simp;refine hK _ _ (λ_=>d) ?_;clear hK K d;refine fZ ?_;go_wp2_with fail;go_ret;exact⟨β,N p,N z⟩
theorem xM(b)(s)(a c)(w)(ha:ζ a)(hc:ζ c)(h:SAt w b s):μ ι 247 #[I4 b,.int .i64 a,.int .i64 c] w λe w'=>e=.returned (.int .i64 (xC a c))/\SAt w' b (s.bend (XK a c))/\κ b w w':=by
 obtain⟨B,e1,m,o,k1,n⟩:=uI h;have q:=γ ha;have t:=γ hc;have H:=γ o;have E1:=γ e1;have y:=γ k1;have A:=γ n;have j:(λu=>HbAt u w.heap.size b) B.drew:=m;clear ha hc h m e1 o k1 n;go_in;go_wp2_with fail;rw[<-N E1];refine dY (S:=λu=>HbAt u w.heap.size b) [(0,false),(1,false),(2,false),(3,true),(4,false),(5,false),(6,true),(7,true)] [] Yl Yl ?_;iterate 3
  refine bG (v:=?_) β (λ_ _ _ h=>h) Mq j ?_ ?_;rotate_left 1
  .intro C f;have D:=HbAt.c0 f;go_simp<;>exact rfl
  go_frame
 refine bD β (λK hK=>?_);go_simp;refine (aPO a c (N q) (N t) _).mono ?_;rintro e F ⟨rfl,rfl⟩;refine hK _ _ (λ_=>j) ?_;clear hK K;iterate 2
  refine bG (v:=?_) β (λ_ _ _ h=>h) Mq j ?_ ?_;rotate_left 1
  .intro C f;clear f;go_simp<;>exact rfl
  go_frame
 refine bD β (λK hK=>?_);go_simp;refine (U7 b s _ _ _ (SAt.drewN (N H) _)).mono ?_;rintro e I ⟨rfl,h3,l⟩;have d:=HbAt.kept j l (N A);refine hK _ _ (λ_=>d) ?_;have p:=γ h3;have z:=γ (((N y).trans (jV _ 1) (Aa β)).trans l (Aa β));clear h3 l hK K j;refine bD β (λK hK=>?_);go_simp;refine hK _ _ (λ_=>d) ?_;clear hK K d;refine fZ ?_;go_wp2_with fail;go_ret;exact⟨β,N p,N z⟩
theorem mD(b)(s)(a c)(w)(ha:ζ a)(hc:ζ c)(h:SAt w b s):μ ι 249 #[I4 b,.int .i64 a,.int .i64 c] w λe w'=>e=.returned (.int .i64 (fD a c))/\SAt w' b (s.bend (yK a c))/\κ b w w':=by
 obtain⟨B,e1,m,o,k1,n⟩:=uI h;have q:=γ ha;have t:=γ hc;have H:=γ o;have E1:=γ e1;have y:=γ k1;have A:=γ n;have j:(λu=>HbAt u w.heap.size b) B.drew:=m;clear ha hc h m e1 o k1 n;go_in;go_wp2_with fail;rw[<-N E1];refine dY (S:=λu=>HbAt u w.heap.size b) [(0,false),(1,false),(2,false),(3,true),(4,false),(5,false),(6,true),(7,true)] [] Yl Yl ?_;iterate 3
  refine bG (v:=?_) β (λ_ _ _ h=>h) Mq j ?_ ?_;rotate_left 1
  .intro C f;have D:=HbAt.c0 f;go_simp<;>exact rfl
  go_frame
 refine bD β (λK hK=>?_);go_simp;refine (aOS a c (N q) (N t) _).mono ?_;rintro e F ⟨rfl,rfl⟩;refine hK _ _ (λ_=>j) ?_;clear hK K;iterate 2
  refine bG (v:=?_) β (λ_ _ _ h=>h) Mq j ?_ ?_;rotate_left 1
  .intro C f;clear f;go_simp<;>exact rfl
  go_frame
 refine bD β (λK hK=>?_);go_simp;refine (U7 b s _ _ _ (SAt.drewN (N H) _)).mono ?_;rintro e I ⟨rfl,h3,l⟩;have d:=HbAt.kept j l (N A);refine hK _ _ (λ_=>d) ?_;have p:=γ h3;have z:=γ (((N y).trans (jV _ 1) (Aa β)).trans l (Aa β));clear h3 l hK K j;refine bD β (λK hK=>?_);go_simp;refine hK _ _ (λ_=>d) ?_;clear hK K d;refine fZ ?_;go_wp2_with fail;go_ret;exact⟨β,N p,N z⟩
theorem aAM(b)(s)(a c)(w)(ha:ζ a)(hc:ζ c)(h:SAt w b s):μ ι 278 #[I4 b,.int .i64 a,.int .i64 c] w λe w'=>e=.returned (.int .i64 (gK a c))/\SAt w' b (s.bend (yX a c))/\κ b w w':=by
 obtain⟨p,e1,m,o,k1,n⟩:=uI h;have t:=γ ha;have y:=γ hc;have H:=γ o;have E1:=γ e1;have z:=γ k1;have B:=γ n;have j:(λu=>HbAt u w.heap.size b) p.drew:=m;clear ha hc h m e1 o k1 n;go_in;go_wp2_with fail;rw[<-N E1];refine dY (S:=λu=>HbAt u w.heap.size b) [(0,false),(1,false),(2,false),(3,true),(4,false),(5,false),(6,true),(7,true)] [] Yl Yl ?_;iterate 3
  refine bG (v:=?_) β (λ_ _ _ h=>h) Mq j ?_ ?_;rotate_left 1
  .intro C f;have D:=HbAt.c0 f;go_simp<;>exact rfl
  go_frame
 refine bD β (λK hK=>?_);go_simp;refine (aOd a c (N t) (N y) _).mono ?_;rintro e F ⟨k,rfl,rfl⟩;refine hK _ _ (λ_=>j) ?_;clear hK K;iterate 2
  refine bG (v:=?_) β (λ_ _ _ h=>h) Mq j ?_ ?_;rotate_left 1
  .intro C f;clear f;go_simp<;>exact rfl
  go_frame
 refine bD β (λK hK=>?_);go_simp;refine (U7 b s _ _ _ (SAt.drewN (N H) _)).mono ?_;rintro e I ⟨rfl,h3,l⟩;have d:=HbAt.kept (w:=p.drewN (1+k)) j l (N B);refine hK _ _ (λ_=>d) ?_;have q:=γ h3;have A:=γ (((N z).trans (jV _ (1+k)) (Aa β)).trans l (Aa β));clear h3 l hK K j;refine bD β (λK hK=>?_);go_simp;refine hK _ _ (λ_=>d) ?_;clear hK K d;refine fZ ?_;go_wp2_with fail;go_ret;exact⟨β,N q,N A⟩
theorem aAN(b)(s)(dt q)(w)(hs:s.Ok)(hdt:ζ dt)(hq:ζ q)(h:SAt w b s):μ ι 222 #[I4 b,.int .i64 dt,.int .i64 q] w λe w'=>e=.returned (.tuple #[])/\SAt w' b (sV s dt q)/\κ b w w':=by
 obtain⟨w1,e1,d1,s1,k1⟩:=yL h;have F:=γ hs;have E1:=γ e1;have D1:=γ d1;have S1:=γ s1;have K1:=γ k1;have z:=γ hdt;have Rq:=γ hq;have a0:=h.c0;have a1:=h.c1;have a2:=h.c2;have a3:=h.c3;have a4:=h.c4;have a5:=h.c5;have a6:=h.c6;have lb:=h.lt;clear hs e1 d1 s1 k1 h hdt hq;go_in;go_wp2_with fail;rw[<-N E1];clear a0 a1 a2 a3 a4 a5 a6;refine (mD b _ s.P01 dt _ (N F).P01 (N z) (N S1)).mono ?_;rintro e w2 ⟨rfl,h,k⟩;have D2:=γ ((N D1).kept k);clear D1;have S2:=γ h;have K2:=γ ((N K1).trans k (Aa β));clear h k S1 K1;have d:=(N D2).hand.c0;have c4:=(N D2).old.c4;go_wp2_with fail;clear d c4;refine (mD b _ s.P11 dt _ (N F).P11 (N z) (N S2)).mono ?_;rintro e w3 ⟨rfl,h,k⟩;have D3:=γ ((N D2).kept k);clear D2;have S3:=γ h;have K3:=γ ((N K2).trans k (Aa β));clear h k S2 K2;have d:=(N D3).hand.c0;go_wp2_with fail;clear d;have I:Hd w.heap.size b (w.heap.size+1) s w3.drew:=(N D3).drew;clear D3;refine dY (S:=Hd w.heap.size b (w.heap.size+1) s) [(0,false),(1,false),(2,false),(3,false),(4,false),(5,false),(6,false),(7,false),(8,false),(9,true),(10,true),(11,false),(12,false),(13,true)] [] Yl Yl ?_;iterate 9
  refine bG (v:=?_) β (λ_ _ _ h=>h) Mq I ?_ ?_;rotate_left 1
  .intro R a;have d:=a.hand.c0;have c0:=a.old.c0;have c1:=a.old.c1;have c2:=a.old.c2;have c3:=a.old.c3;have c4:=a.old.c4;clear a;go_simp<;>exact rfl
  go_frame
 refine bD β (λK hK=>?_);go_simp;refine (mD b _ s.V dt _ (N F).V (N z) (SAt.drewN (N S3) 1)).mono ?_;rintro e w4 ⟨rfl,h,k⟩;have J:=I.kept k;refine hK _ _ (λ_=>J) ?_;clear hK K I;have S4:=γ h;have K4:=γ (((N K3).trans (jV _ 1) (Aa β)).trans k (Aa β));clear h k S3 K3;refine bD β (λK hK=>?_);go_simp;refine (nY b _ s.X (fD s.V dt) _ (N F).X (lT _ _) (N S4)).mono ?_;rintro e w5 ⟨rfl,h,k⟩;have D:=J.kept k;refine hK _ _ (λ_=>D) ?_;clear hK K J;have S5:=γ h;have K5:=γ ((N K4).trans k (Aa β));clear h k S4 K4;iterate 2
  refine bG (v:=?_) β (λ_ _ _ h=>h) Mq D ?_ ?_;rotate_left 1
  .intro R a;have d:=a.hand.c0;have c0:=a.old.c0;have c1:=a.old.c1;have c2:=a.old.c2;have c3:=a.old.c3;have c4:=a.old.c4;clear a;go_simp<;>exact rfl
  go_frame
 obtain⟨w6,n,h,k⟩:=(N S5).pX (kH s.X (fD s.V dt));have c:=(N S5).c0;have f:=(N S5).free 0;refine bD β (λK hK=>?_);go_simp;rw[<-n];have D6:=γ (D.kept k);refine hK _ _ (λ_=>(N D6)) ?_;have S6:=γ h;have K6:=γ ((N K5).trans k (Aa β));clear hK K n h k c f D S5 K5;refine fZ ?_;have d:=(N D6).hand.c0;go_wp2_with fail;clear d;have L:Hd w.heap.size b (w.heap.size+1) s w6.drew:=(N D6).drew;clear D6;refine dY (S:=Hd w.heap.size b (w.heap.size+1) s) [(0,false),(1,false),(2,false),(3,false),(4,false),(5,false),(6,false),(7,false),(9,false),(11,false),(12,false),(13,false),(8,true),(10,true),(14,true),(15,true),(16,false),(17,false),(18,true)] [] Yl Yl ?_;iterate 12
  refine bG (v:=?_) β (λ_ _ _ h=>h) Mq L ?_ ?_;rotate_left 1
  .intro R a;have d:=a.hand.c0;have c0:=a.old.c0;have c1:=a.old.c1;have c2:=a.old.c2;have c3:=a.old.c3;have c4:=a.old.c4;clear a;go_simp<;>exact rfl
  go_frame
 refine bD β (λK hK=>?_);go_simp;refine (nY b _ s.P00 (fD s.P01 dt) _ (N F).P00 (lT _ _) (SAt.drewN (N S6) 1)).mono ?_;rintro e w7 ⟨rfl,h,k⟩;have O:=L.kept k;refine hK _ _ (λ_=>O) ?_;clear hK K L;have S7:=γ h;have K7:=γ (((N K6).trans (jV _ 1) (Aa β)).trans k (Aa β));clear h k S6 K6;refine bD β (λK hK=>?_);go_simp;refine (nY b _ (kH s.P00 (fD s.P01 dt)) (fD s.P01 dt) _ (qB _ _) (lT _ _) (N S7)).mono ?_;rintro e w8 ⟨rfl,h,k⟩;have P:=O.kept k;refine hK _ _ (λ_=>P) ?_;clear hK K O;have S8:=γ h;have K8:=γ ((N K7).trans k (Aa β));clear h k S7 K7;refine bD β (λK hK=>?_);go_simp;refine (mD b _ (fD s.P11 dt) dt _ (lT _ _) (N z) (N S8)).mono ?_;rintro e w9 ⟨rfl,h,k⟩;have Q:=P.kept k;refine hK _ _ (λ_=>Q) ?_;clear hK K P;have S9:=γ h;have K9:=γ ((N K8).trans k (Aa β));clear h k S8 K8;refine bD β (λK hK=>?_);go_simp;refine (nY b _ (kH (kH s.P00 (fD s.P01 dt)) (fD s.P01 dt)) (fD (fD s.P11 dt) dt) _ (qB _ _) (lT _ _) (N S9)).mono ?_;rintro e b4 ⟨rfl,h,k⟩;have j:=Q.kept k;refine hK _ _ (λ_=>j) ?_;clear hK K Q;have A:=γ h;have T:=γ ((N K9).trans k (Aa β));clear h k S9 K9;iterate 2
  refine bG (v:=?_) β (λ_ _ _ h=>h) Mq j ?_ ?_;rotate_left 1
  .intro R a;have d:=a.hand.c0;have c0:=a.old.c0;have c1:=a.old.c1;have c2:=a.old.c2;have c3:=a.old.c3;have c4:=a.old.c4;clear a;go_simp<;>exact rfl
  go_frame
 obtain⟨b2,n,h,k⟩:=(N A).pP00 (kH (kH (kH s.P00 (fD s.P01 dt)) (fD s.P01 dt)) (fD (fD s.P11 dt) dt));have c:=(N A).c2;have f:=(N A).free 2;refine bD β (λK hK=>?_);go_simp;rw[<-n];have t:=γ (j.kept k);refine hK _ _ (λ_=>(N t)) ?_;have a7:=γ h;have U:=γ ((N T).trans k (Aa β));clear hK K n h k c f j A T;refine fZ ?_;have d:=(N t).hand.c0;go_wp2_with fail;clear d;have o:Hd w.heap.size b (w.heap.size+1) s b2.drew:=(N t).drew;clear t;refine dY (S:=Hd w.heap.size b (w.heap.size+1) s) [(0,false),(1,false),(2,false),(3,false),(4,false),(5,false),(6,true),(7,false),(8,false),(9,true)] [] Yl Yl ?_;iterate 6
  refine bG (v:=?_) β (λ_ _ _ h=>h) Mq o ?_ ?_;rotate_left 1
  .intro R a;have d:=a.hand.c0;have c0:=a.old.c0;have c1:=a.old.c1;have c2:=a.old.c2;have c3:=a.old.c3;have c4:=a.old.c4;clear a;go_simp<;>exact rfl
  go_frame
 refine bD β (λK hK=>?_);go_simp;refine (nY b _ s.P01 (fD s.P11 dt) _ (N F).P01 (lT _ _) (SAt.drewN (N a7) 1)).mono ?_;rintro e b5 ⟨rfl,h,k⟩;have l:=o.kept k;refine hK _ _ (λ_=>l) ?_;clear hK K o;have B:=γ h;have W:=γ (((N U).trans (jV _ 1) (Aa β)).trans k (Aa β));clear h k a7 U;iterate 2
  refine bG (v:=?_) β (λ_ _ _ h=>h) Mq l ?_ ?_;rotate_left 1
  .intro R a;have d:=a.hand.c0;have c0:=a.old.c0;have c1:=a.old.c1;have c2:=a.old.c2;have c3:=a.old.c3;have c4:=a.old.c4;clear a;go_simp<;>exact rfl
  go_frame
 obtain⟨b3,n,h,k⟩:=(N B).pP01 (kH s.P01 (fD s.P11 dt));have c:=(N B).c3;have f:=(N B).free 3;refine bD β (λK hK=>?_);go_simp;rw[<-n];have y:=γ (l.kept k);refine hK _ _ (λ_=>(N y)) ?_;have a8:=γ h;have Y:=γ ((N W).trans k (Aa β));clear hK K n h k c f l B W;refine fZ ?_;have d:=(N y).hand.c0;go_wp2_with fail;clear d;have p:Hd w.heap.size b (w.heap.size+1) s b3.drew:=(N y).drew;clear y;refine dY (S:=Hd w.heap.size b (w.heap.size+1) s) [(0,false),(1,false),(2,false),(3,false),(4,false),(5,false),(6,true),(7,false),(8,false),(9,true)] [] Yl Yl ?_;iterate 6
  refine bG (v:=?_) β (λ_ _ _ h=>h) Mq p ?_ ?_;rotate_left 1
  .intro R a;have d:=a.hand.c0;have c0:=a.old.c0;have c1:=a.old.c1;have c2:=a.old.c2;have c3:=a.old.c3;have c4:=a.old.c4;clear a;go_simp<;>exact rfl
  go_frame
 refine bD β (λK hK=>?_);go_simp;refine (nY b _ s.P11 q _ (N F).P11 (N Rq) (SAt.drewN (N a8) 1)).mono ?_;rintro e b6 ⟨rfl,h,k⟩;have m:=p.kept k;refine hK _ _ (λ_=>m) ?_;clear hK K p;have C:=γ h;have Z:=γ (((N Y).trans (jV _ 1) (Aa β)).trans k (Aa β));clear h k a8 Y;iterate 2
  refine bG (v:=?_) β (λ_ _ _ h=>h) Mq m ?_ ?_;rotate_left 1
  .intro R a;have d:=a.hand.c0;have c0:=a.old.c0;have c1:=a.old.c1;have c2:=a.old.c2;have c3:=a.old.c3;have c4:=a.old.c4;clear a;go_simp<;>exact rfl
  go_frame
 obtain⟨b7,n,h,k⟩:=(N C).pP11 (kH s.P11 q);have c:=(N C).c4;have f:=(N C).free 4;refine bD β (λK hK=>?_);go_simp;rw[<-n];have a9:=γ (m.kept k);refine hK _ _ (λ_=>(N a9)) ?_;have b1:=γ h;have b0:=γ ((N Z).trans k (Aa β));clear hK K n h k c f m C Z;refine fZ ?_;go_wp2_with fail;go_end0;exact⟨β,N b1,N b0⟩
theorem aHm(b)(s)(y d)(w)(hs:s.Ok)(hy:ζ y)(hd:ζ d)(h:SAt w b s):μ ι 250 #[I4 b,.int .i64 y,.int .i64 d] w λe w'=>e=.returned (.tuple #[])/\SAt w' b (takeS s y d)/\κ b w w':=by
 obtain⟨w1,e1,d1,s1,k1⟩:=yL h;have B:=γ hs;have E1:=γ e1;have D1:=γ d1;have S1:=γ s1;have K1:=γ k1;have Ry:=γ hy;have Rd:=γ hd;obtain⟨a0,a1,a2,a3,a4,a5,a6⟩:=h.cs;have lb:=h.lt;clear hs e1 d1 s1 k1 h hy hd;go_in;go_wp2_with fail;rw[<-N E1];clear a0 a1 a2 a3 a4 a5 a6;refine (aAM b _ s.P00 d _ (N B).P00 (N Rd) (N S1)).mono ?_;rintro e w2 ⟨rfl,h,k⟩;have D2:=γ ((N D1).kept k);clear D1;have S2:=γ h;have K2:=γ ((N K1).trans k (Aa β));clear h k S1 K1;have j:=(N D2).hand.c0;have c3:=(N D2).old.c3;go_wp2_with fail;clear j c3;refine (aAM b _ s.P01 d _ (N B).P01 (N Rd) (N S2)).mono ?_;rintro e w3 ⟨rfl,h,k⟩;have D3:=γ ((N D2).kept k);clear D2;have S3:=γ h;have K3:=γ ((N K2).trans k (Aa β));clear h k S2 K2;have j:=(N D3).hand.c0;go_wp2_with fail;clear j;have R:Hd w.heap.size b (w.heap.size+1) s w3.drew:=(N D3).drew;clear D3;refine dY (S:=Hd w.heap.size b (w.heap.size+1) s) [(0,false),(1,false),(2,false),(3,false),(4,false),(5,false),(6,false),(7,false),(8,true),(9,true),(10,false),(11,false),(12,true)] [] Yl Yl ?_;iterate 8
  refine bG (v:=?_) β (λ_ _ _ h=>h) Mq R ?_ ?_;rotate_left 1
  .intro P a;have j:=a.hand.c0;obtain⟨c0,c1,c2,c3,c4,_⟩:=a.old.cs;clear a;go_simp<;>exact rfl
  go_frame
 refine bD β (λK hK=>?_);go_simp;refine (mD b _ (gK s.P00 d) y _ (vC _ _) (N Ry) (SAt.drewN (N S3) 1)).mono ?_;rintro e w4 ⟨rfl,h,k⟩;have T:=R.kept k;refine hK _ _ (λ_=>T) ?_;clear hK K R;have S4:=γ h;have K4:=γ (((N K3).trans (jV _ 1) (Aa β)).trans k (Aa β));clear h k S3 K3;refine bD β (λK hK=>?_);go_simp;refine (nY b _ s.X (fD (gK s.P00 d) y) _ (N B).X (lT _ _) (N S4)).mono ?_;rintro e w5 ⟨rfl,h,k⟩;have L:=T.kept k;refine hK _ _ (λ_=>L) ?_;clear hK K T;have S5:=γ h;have K5:=γ ((N K4).trans k (Aa β));clear h k S4 K4;iterate 2
  refine bG (v:=?_) β (λ_ _ _ h=>h) Mq L ?_ ?_;rotate_left 1
  .intro P a;have j:=a.hand.c0;obtain⟨c0,c1,c2,c3,c4,_⟩:=a.old.cs;clear a;go_simp<;>exact rfl
  go_frame
 obtain⟨w6,l,h,k⟩:=(N S5).pX (kH s.X (fD (gK s.P00 d) y));have c:=(N S5).c0;have f:=(N S5).free 0;refine bD β (λK hK=>?_);go_simp;rw[<-l];have D6:=γ (L.kept k);refine hK _ _ (λ_=>(N D6)) ?_;have S6:=γ h;have K6:=γ ((N K5).trans k (Aa β));clear hK K l h k c f L S5 K5;refine fZ ?_;have j:=(N D6).hand.c0;go_wp2_with fail;clear j;have U:Hd w.heap.size b (w.heap.size+1) s w6.drew:=(N D6).drew;clear D6;refine dY (S:=Hd w.heap.size b (w.heap.size+1) s) [(0,false),(1,false),(2,false),(3,false),(4,false),(5,false),(6,false),(7,false),(8,true),(9,true),(10,false),(11,false),(12,true)] [] Yl Yl ?_;iterate 8
  refine bG (v:=?_) β (λ_ _ _ h=>h) Mq U ?_ ?_;rotate_left 1
  .intro P a;have j:=a.hand.c0;obtain⟨c0,c1,c2,c3,c4,_⟩:=a.old.cs;clear a;go_simp<;>exact rfl
  go_frame
 refine bD β (λK hK=>?_);go_simp;refine (mD b _ (gK s.P01 d) y _ (vC _ _) (N Ry) (SAt.drewN (N S6) 1)).mono ?_;rintro e w7 ⟨rfl,h,k⟩;have W:=U.kept k;refine hK _ _ (λ_=>W) ?_;clear hK K U;have S7:=γ h;have K7:=γ (((N K6).trans (jV _ 1) (Aa β)).trans k (Aa β));clear h k S6 K6;refine bD β (λK hK=>?_);go_simp;refine (nY b _ s.V (fD (gK s.P01 d) y) _ (N B).V (lT _ _) (N S7)).mono ?_;rintro e w8 ⟨rfl,h,k⟩;have O:=W.kept k;refine hK _ _ (λ_=>O) ?_;clear hK K W;have S8:=γ h;have K8:=γ ((N K7).trans k (Aa β));clear h k S7 K7;iterate 2
  refine bG (v:=?_) β (λ_ _ _ h=>h) Mq O ?_ ?_;rotate_left 1
  .intro P a;have j:=a.hand.c0;obtain⟨c0,c1,c2,c3,c4,_⟩:=a.old.cs;clear a;go_simp<;>exact rfl
  go_frame
 obtain⟨w9,l,h,k⟩:=(N S8).pV (kH s.V (fD (gK s.P01 d) y));have c:=(N S8).c1;have f:=(N S8).free 1;refine bD β (λK hK=>?_);go_simp;rw[<-l];have D9:=γ (O.kept k);refine hK _ _ (λ_=>(N D9)) ?_;have S9:=γ h;have K9:=γ ((N K8).trans k (Aa β));clear hK K l h k c f O S8 K8;refine fZ ?_;have j:=(N D9).hand.c0;go_wp2_with fail;clear j;have Y:Hd w.heap.size b (w.heap.size+1) s w9.drew:=(N D9).drew;clear D9;refine dY (S:=Hd w.heap.size b (w.heap.size+1) s) [(0,false),(1,false),(2,false),(3,false),(4,false),(5,false),(6,false),(7,false),(8,false),(9,true),(10,true),(11,false),(12,false),(13,true)] [] Yl Yl ?_;iterate 9
  refine bG (v:=?_) β (λ_ _ _ h=>h) Mq Y ?_ ?_;rotate_left 1
  .intro P a;have j:=a.hand.c0;obtain⟨c0,c1,c2,c3,c4,_⟩:=a.old.cs;clear a;go_simp<;>exact rfl
  go_frame
 refine bD β (λK hK=>?_);go_simp;refine (mD b _ (gK s.P00 d) s.P00 _ (vC _ _) (N B).P00 (SAt.drewN (N S9) 1)).mono ?_;rintro e d2 ⟨rfl,h,k⟩;have p:=Y.kept k;refine hK _ _ (λ_=>p) ?_;clear hK K Y;have b5:=γ h;have a7:=γ (((N K9).trans (jV _ 1) (Aa β)).trans k (Aa β));clear h k S9 K9;refine bD β (λK hK=>?_);go_simp;refine (xM b _ s.P00 (fD (gK s.P00 d) s.P00) _ (N B).P00 (lT _ _) (N b5)).mono ?_;rintro e d3 ⟨rfl,h,k⟩;have m:=p.kept k;refine hK _ _ (λ_=>m) ?_;clear hK K p;have F:=γ h;have a8:=γ ((N a7).trans k (Aa β));clear h k b5 a7;iterate 2
  refine bG (v:=?_) β (λ_ _ _ h=>h) Mq m ?_ ?_;rotate_left 1
  .intro P a;have j:=a.hand.c0;obtain⟨c0,c1,c2,c3,c4,_⟩:=a.old.cs;clear a;go_simp<;>exact rfl
  go_frame
 obtain⟨c9,l,h,k⟩:=(N F).pP00 (xC s.P00 (fD (gK s.P00 d) s.P00));have c:=(N F).c2;have f:=(N F).free 2;refine bD β (λK hK=>?_);go_simp;rw[<-l];have C:=γ (m.kept k);refine hK _ _ (λ_=>(N C)) ?_;have b6:=γ h;have a9:=γ ((N a8).trans k (Aa β));clear hK K l h k c f m F a8;refine fZ ?_;have j:=(N C).hand.c0;go_wp2_with fail;clear j;have q:Hd w.heap.size b (w.heap.size+1) s c9.drew:=(N C).drew;clear C;refine dY (S:=Hd w.heap.size b (w.heap.size+1) s) [(0,false),(1,false),(2,false),(3,false),(4,false),(5,false),(6,false),(7,false),(8,false),(9,true),(10,true),(11,false),(12,false),(13,true)] [] Yl Yl ?_;iterate 9
  refine bG (v:=?_) β (λ_ _ _ h=>h) Mq q ?_ ?_;rotate_left 1
  .intro P a;have j:=a.hand.c0;obtain⟨c0,c1,c2,c3,c4,_⟩:=a.old.cs;clear a;go_simp<;>exact rfl
  go_frame
 refine bD β (λK hK=>?_);go_simp;refine (mD b _ (gK s.P00 d) s.P01 _ (vC _ _) (N B).P01 (SAt.drewN (N b6) 1)).mono ?_;rintro e d4 ⟨rfl,h,k⟩;have t:=q.kept k;refine hK _ _ (λ_=>t) ?_;clear hK K q;have b7:=γ h;have b0:=γ (((N a9).trans (jV _ 1) (Aa β)).trans k (Aa β));clear h k b6 a9;refine bD β (λK hK=>?_);go_simp;refine (xM b _ s.P01 (fD (gK s.P00 d) s.P01) _ (N B).P01 (lT _ _) (N b7)).mono ?_;rintro e d5 ⟨rfl,h,k⟩;have n:=t.kept k;refine hK _ _ (λ_=>n) ?_;clear hK K t;have I:=γ h;have b1:=γ ((N b0).trans k (Aa β));clear h k b7 b0;iterate 2
  refine bG (v:=?_) β (λ_ _ _ h=>h) Mq n ?_ ?_;rotate_left 1
  .intro P a;have j:=a.hand.c0;obtain⟨c0,c1,c2,c3,c4,_⟩:=a.old.cs;clear a;go_simp<;>exact rfl
  go_frame
 obtain⟨d0,l,h,k⟩:=(N I).pP01 (xC s.P01 (fD (gK s.P00 d) s.P01));have c:=(N I).c3;have f:=(N I).free 3;refine bD β (λK hK=>?_);go_simp;rw[<-l];have D:=γ (n.kept k);refine hK _ _ (λ_=>(N D)) ?_;have b8:=γ h;have b2:=γ ((N b1).trans k (Aa β));clear hK K l h k c f n I b1;refine fZ ?_;have j:=(N D).hand.c0;go_wp2_with fail;clear j;have z:Hd w.heap.size b (w.heap.size+1) s d0.drew:=(N D).drew;clear D;refine dY (S:=Hd w.heap.size b (w.heap.size+1) s) [(0,false),(1,false),(2,false),(3,false),(4,false),(5,false),(6,false),(7,false),(8,false),(9,true),(10,true),(11,false),(12,false),(13,true)] [] Yl Yl ?_;iterate 9
  refine bG (v:=?_) β (λ_ _ _ h=>h) Mq z ?_ ?_;rotate_left 1
  .intro P a;have j:=a.hand.c0;obtain⟨c0,c1,c2,c3,c4,_⟩:=a.old.cs;clear a;go_simp<;>exact rfl
  go_frame
 refine bD β (λK hK=>?_);go_simp;refine (mD b _ (gK s.P01 d) s.P01 _ (vC _ _) (N B).P01 (SAt.drewN (N b8) 1)).mono ?_;rintro e d6 ⟨rfl,h,k⟩;have A:=z.kept k;refine hK _ _ (λ_=>A) ?_;clear hK K z;have b9:=γ h;have b3:=γ (((N b2).trans (jV _ 1) (Aa β)).trans k (Aa β));clear h k b8 b2;refine bD β (λK hK=>?_);go_simp;refine (xM b _ s.P11 (fD (gK s.P01 d) s.P01) _ (N B).P11 (lT _ _) (N b9)).mono ?_;rintro e d7 ⟨rfl,h,k⟩;have o:=A.kept k;refine hK _ _ (λ_=>o) ?_;clear hK K A;have J:=γ h;have b4:=γ ((N b3).trans k (Aa β));clear h k b9 b3;iterate 2
  refine bG (v:=?_) β (λ_ _ _ h=>h) Mq o ?_ ?_;rotate_left 1
  .intro P a;have j:=a.hand.c0;obtain⟨c0,c1,c2,c3,c4,_⟩:=a.old.cs;clear a;go_simp<;>exact rfl
  go_frame
 obtain⟨d8,l,h,k⟩:=(N J).pP11 (xC s.P11 (fD (gK s.P01 d) s.P01));have c:=(N J).c4;have f:=(N J).free 4;refine bD β (λK hK=>?_);go_simp;rw[<-l];have Z:=γ (o.kept k);refine hK _ _ (λ_=>(N Z)) ?_;have Q:=γ h;have c5:=γ ((N b4).trans k (Aa β));clear hK K l h k c f o J b4;refine fZ ?_;have j:=(N Z).hand.c0;have c:=(N Q).c6;have f:=(N Q).free 6;obtain⟨d9,l,h,k⟩:=(N Q).pM 0;have c8:=γ h;have c7:=γ ((N c5).trans k (Aa β));have E4:=γ l;clear h k l;go_wp2_with fail;rw[<-N E4];go_end0;exact⟨β,N c8,N c7⟩
theorem St.Ok.bend(h:s.Ok)(x):(s.bend x).Ok:=⟨h.X,h.V,h.P00,h.P01,h.P11,h.M⟩
variable{gate:θ}
theorem WW{z r}(h:τ s r<=0):sU s z r gate=true:=by unfold sU;grind
theorem RL{z r}(h:fD gate (τ s r)<fD (υ s z) (υ s z)):sU s z r gate=true:=by unfold sU;grind
theorem WX{z r}(h:¬τ s r<=0)(h2:¬fD gate (τ s r)<fD (υ s z) (υ s z)):sU s z r gate=false:=by unfold sU;grind
theorem SAt.back(h:SAt w b s)(t:St):∃w',w'=(((((((w.setCell ⟨b,0,δ⟩ (.int .i64 t.X)).setCell ⟨b,1,δ⟩ (.int .i64 t.V)).setCell ⟨b,2,δ⟩ (.int .i64 t.P00)).setCell ⟨b,3,δ⟩ (.int .i64 t.P01)).setCell ⟨b,4,δ⟩ (.int .i64 t.P11)).setCell ⟨b,5,δ⟩ (.bool t.B)).setCell ⟨b,6,δ⟩ (.int .i64 t.M)).setCell ⟨b,6,δ⟩ (.int .i64 (wrap64 (t.M+1)))/\SAt w' b (t.setM (moreM t.M))/\κ b w w':=by obtain⟨d,e1,h1,k1⟩:=h.put t;obtain⟨c,e2,h2,a⟩:=h1.pM (moreM t.M);exact⟨c,by rw[e2,e1];rfl,h2,k1.trans a (Aa rfl)⟩
theorem aDa(b)(s)(z r gate)(w)(hs:s.Ok)(hz:ζ z)(hr:ζ r)(hg:ζ gate)(h:SAt w b s)(hd:τ s r<=0):μ ι 221 #[I4 b,.int .i64 z,.int .i64 r,.int .i64 gate] w λe w'=>e=.returned (.bool (oL s z r gate))/\SAt w' b (nN s z r gate)/\κ b w w':=by
 obtain⟨y,l⟩:=wZ (υ s z);obtain⟨d,c⟩:=wZ (τ s r);rw[<-c] at hd;have R:=γ l;have n:=γ c;have RY:=γ (show ζ y by rw[l];exact zN _ _);have RD:=γ (show ζ d by rw[c];exact qB _ _);clear l c;obtain⟨w1,e1,F,O,k1⟩:=yL h;have t:=γ hs;have E1:=γ e1;have m:=γ F;have A:=γ O;have o:=γ k1;have W:=γ hz;have V:=γ hr;have Rg:=γ hg;obtain⟨Z,a1,a2,a3,a4,a5,a6⟩:=h.cs;have lb:=h.lt;clear hs e1 F O k1 h hz hr hg;go_in;go_wp2_with fail;rw[<-N E1];clear Z a1 a2 a3 a4 a5 a6;refine (xM b _ z s.X _ (N W) (N t).X (N A)).mono ?_;rintro e w2 ⟨rfl,h,k⟩;have a:=γ ((N m).kept k);have B:=γ h;have p:=γ ((N o).trans k (Aa β));clear h k A o m;have f:=(N a).hand.c0;have c2:=(N a).old.c2;go_wp2_with fail;clear f c2;refine (nY b _ s.P00 r _ (N t).P00 (N V) (N B)).mono ?_;rintro e P ⟨rfl,h,k⟩;have j:=γ ((N a).kept k);have C:=γ h;have q:=γ ((N p).trans k (Aa β));clear h k B p a;rw[show xC z s.X=y from (N R).symm,show kH s.P00 r=d from (N n).symm];go_wp2_with fail;have f:=(N j).hand.c0;go_region;have D:=γ (N j).drew;have S:=γ (N C).drew;have K:=γ ((N q).trans (oZ P) (Aa β));clear j C q f;generalize P.drew=u at*;have f:=(N D).hand.c0;have n1:=(N D).n1;have n2:=(N D).n2;obtain⟨c0,c1,c2,c3,c4,c5,c6⟩:=(N D).old.cs;obtain⟨b0,b1,b2,b3,b4,b5,b6⟩:=(N S).cs;obtain⟨f0,f1,f2,f3,f4,f5,f6⟩:=(N S).fs;obtain⟨w4,I,J,L⟩:=(N S).back s;have Q:=γ I;have Y:=γ J;have T:=γ ((N K).trans L (Aa β));clear I J L;go_wp2_with fail;rw[<-N Q];go_ret;have U:sU s z r gate=true:=by apply WW;rw[<-N n];exact hd
 unfold oL nN;rw[U];exact⟨β,N Y,N T⟩
theorem aAO(b)(s)(z r gate)(w)(hs:s.Ok)(hz:ζ z)(hr:ζ r)(hg:ζ gate)(h:SAt w b s)(hd:¬τ s r<=0)(hp:fD gate (τ s r)<fD (υ s z) (υ s z)):μ ι 221 #[I4 b,.int .i64 z,.int .i64 r,.int .i64 gate] w λe w'=>e=.returned (.bool (oL s z r gate))/\SAt w' b (nN s z r gate)/\κ b w w':=by
 obtain⟨y,t⟩:=wZ (υ s z);obtain⟨d,q⟩:=wZ (τ s r);rw[<-q] at hd hp;rw[<-t] at hp;have F:=γ t;have C:=γ q;have Q:=γ (show ζ y by rw[t];exact zN _ _);have RD:=γ (show ζ d by rw[q];exact qB _ _);clear t q;obtain⟨w1,e1,V,s1,k1⟩:=yL h;have P:=γ hs;have E1:=γ e1;have A:=γ V;have R:=γ s1;have I:=γ k1;have Rz:=γ hz;have Rr:=γ hr;have Rg:=γ hg;obtain⟨a0,a1,a2,a3,a4,a5,a6⟩:=h.cs;have lb:=h.lt;clear hs e1 V s1 k1 h hz hr hg;go_in;go_wp2_with fail;rw[<-N E1];clear a0 a1 a2 a3 a4 a5 a6;refine (xM b _ z s.X _ (N Rz) (N P).X (N R)).mono ?_;rintro e w2 ⟨rfl,h,k⟩;have n:=γ ((N A).kept k);have T:=γ h;have J:=γ ((N I).trans k (Aa β));clear h k R I A;have j:=(N n).hand.c0;have c2:=(N n).old.c2;go_wp2_with fail;clear j c2;refine (nY b _ s.P00 r _ (N P).P00 (N Rr) (N T)).mono ?_;rintro e w3 ⟨rfl,h,k⟩;have B:=γ ((N n).kept k);have U:=γ h;have L:=γ ((N J).trans k (Aa β));clear h k T J n;rw[show xC z s.X=y from (N F).symm,show kH s.P00 r=d from (N C).symm];go_wp2_with fail;have c:Hd w.heap.size b (w.heap.size+1) s w3.drew:=(N B).drew;clear B;refine dY (S:=Hd w.heap.size b (w.heap.size+1) s) [(0,false),(1,false),(2,false),(3,false),(4,false),(5,false),(7,false),(8,false),(9,false),(6,true),(10,true),(11,true),(12,true)] [] Yl Yl<|bG (v:=iY d) rfl (λ_ _ _ h=>h) Mq c ?_ ?_
 .intro l a;have j:=a.hand.c0;clear a;go_simp
 show lX _ _ _ _ _ _ (π _ (ε 26) _) _;go_frame;refine bG (v:=χ false) β (λ_ _ _ h=>h) Mq c ?_ ?_
 .intro l a;have j:=a.hand.c0;clear a;go_simp
 show lX _ _ _ _ _ _ (π _ (ε 27) _) _;go_frame;refine bG (v:=χ false) β (λ_ _ _ h=>h) Mq c ?_ ?_
 .intro l a;have j:=a.hand.c0;clear a;go_simp
 show lX _ _ _ _ _ _ (π _ (ε 28) _) _;go_frame;refine bG (v:=I4 b) β (λ_ _ _ h=>h) Yh c ?_ ?_
 .intro l a;have j:=a.hand.c0;clear a;go_simp
 show lX _ _ _ _ _ _ (π _ (ε 29) _) _;go_frame;refine bG (v:=iY y) β (λ_ _ _ h=>h) Yh c ?_ ?_
 .intro l a;have j:=a.hand.c0;clear a;go_simp
 show lX _ _ _ _ _ _ (π _ (ε 30) _) _;go_frame;refine bG (v:=iY y) β (λ_ _ _ h=>h) Yh c ?_ ?_
 .intro l a;have j:=a.hand.c0;clear a;go_simp
 show lX _ _ _ _ _ _ (π _ (ε 31) _) _;go_frame;refine bG (v:=I4 b) β (λ_ _ _ h=>h) Yh c ?_ ?_
 .intro l a;have j:=a.hand.c0;clear a;go_simp
 show lX _ _ _ _ _ _ (π _ (ε 33) _) _;go_frame;refine bG (v:=iY gate) β (λ_ _ _ h=>h) Yh c ?_ ?_
 .intro l a;have j:=a.hand.c0;clear a;go_simp
 show lX _ _ _ _ _ _ (π _ (ε 34) _) _;go_frame;refine bG (v:=iY d) β (λ_ _ _ h=>h) Yh c ?_ ?_
 .intro l a;have j:=a.hand.c0;clear a;go_simp
 show lX _ _ _ _ _ _ (π _ (ε 35) _) _;go_frame;refine bD β (λK hK=>?_);go_simp;refine (mD b _ y y _ (N Q) (N Q) (SAt.drew (N U))).mono ?_;rintro e w4 ⟨rfl,h,k⟩;have m:=c.kept k;refine hK _ _ (λ_=>m) ?_;clear hK K c;have p:=γ h;have o:=γ (((N L).trans (oZ w3) (Aa β)).trans k (Aa β));clear h k U L;refine bD β (λK hK=>?_);go_simp;refine (mD b _ gate d _ (N Rg) (N RD) (N p)).mono ?_;rintro e w5 ⟨rfl,h,k⟩;have f:=m.kept k;refine hK _ _ (λ_=>f) ?_;clear hK K m;have S:=γ h;have O:=γ ((N o).trans k (Aa β));have D:=γ f;clear h k p o;refine bD β (λK hK=>?_);go_simp;refine hK _ _ (λ_=>f) ?_;clear hK K;refine bD β (λK hK=>?_);go_simp;refine hK _ _ (λ_=>f) ?_;clear hK K f;refine fZ ?_;have K:=O;clear O;have j:=(N D).hand.c0;have n1:=(N D).n1;have n2:=(N D).n2;obtain⟨c0,c1,c2,c3,c4,c5,c6⟩:=(N D).old.cs;obtain⟨b0,b1,b2,b3,b4,b5,b6⟩:=(N S).cs;obtain⟨f0,f1,f2,f3,f4,f5,f6⟩:=(N S).fs;obtain⟨w4,W,Y,Z⟩:=(N S).back s;have E4:=γ W;have p:=γ Y;have o:=γ ((N K).trans Z (Aa β));clear W Y Z;go_wp2_with fail;rw[<-N E4];go_ret;have OV:sU s z r gate=true:=by apply RL;rw[<-N C, <-N F];exact hp
 unfold oL nN;rw[OV];exact⟨β,N p,N o⟩
theorem aAP(b)(s)(z r gate)(w)(hs:s.Ok)(hz:ζ z)(hr:ζ r)(hg:ζ gate)(h:SAt w b s)(hd:¬τ s r<=0)(hp:¬fD gate (τ s r)<fD (υ s z) (υ s z)):μ ι 221 #[I4 b,.int .i64 z,.int .i64 r,.int .i64 gate] w λe w'=>e=.returned (.bool (oL s z r gate))/\SAt w' b (nN s z r gate)/\κ b w w':=by
 obtain⟨y,p⟩:=wZ (υ s z);obtain⟨d,o⟩:=wZ (τ s r);rw[<-o] at hd hp;rw[<-p] at hp;have t:=γ p;have q:=γ o;have B:=γ (show ζ y by rw[p];exact zN _ _);have Q:=γ (show ζ d by rw[o];exact qB _ _);clear p o;obtain⟨w1,e1,W,Z,k1⟩:=yL h;have A:=γ hs;have E1:=γ e1;have C:=γ W;have R:=γ Z;have I:=γ k1;have Rz:=γ hz;have Rr:=γ hr;have Rg:=γ hg;obtain⟨a0,a1,a2,a3,a4,a5,a6⟩:=h.cs;have lb:=h.lt;clear hs e1 W Z k1 h hz hr hg;go_in;go_wp2_with fail;rw[<-N E1];clear a0 a1 a2 a3 a4 a5 a6;refine (xM b _ z s.X _ (N Rz) (N A).X (N R)).mono ?_;rintro e w2 ⟨rfl,h,k⟩;have n:=γ ((N C).kept k);have T:=γ h;have J:=γ ((N I).trans k (Aa β));clear h k R I C;have f:=(N n).hand.c0;have c2:=(N n).old.c2;go_wp2_with fail;clear f c2;refine (nY b _ s.P00 r _ (N A).P00 (N Rr) (N T)).mono ?_;rintro e w3 ⟨rfl,h,k⟩;have F:=γ ((N n).kept k);have U:=γ h;have L:=γ ((N J).trans k (Aa β));clear h k T J n;rw[show xC z s.X=y from (N t).symm,show kH s.P00 r=d from (N q).symm];go_wp2_with fail;have c:Hd w.heap.size b (w.heap.size+1) s w3.drew:=(N F).drew;clear F;refine dY (S:=Hd w.heap.size b (w.heap.size+1) s) [(0,false),(1,false),(2,false),(3,false),(4,false),(5,false),(7,false),(8,false),(9,false),(6,true),(10,true),(11,true),(12,true)] [] Yl Yl<|bG (v:=iY d) rfl (λ_ _ _ h=>h) Mq c ?_ ?_
 .intro l a;have f:=a.hand.c0;clear a;go_simp
 show lX _ _ _ _ _ _ (π _ (ε 26) _) _;go_frame;refine bG (v:=χ false) β (λ_ _ _ h=>h) Mq c ?_ ?_
 .intro l a;have f:=a.hand.c0;clear a;go_simp
 show lX _ _ _ _ _ _ (π _ (ε 27) _) _;go_frame;refine bG (v:=χ false) β (λ_ _ _ h=>h) Mq c ?_ ?_
 .intro l a;have f:=a.hand.c0;clear a;go_simp
 show lX _ _ _ _ _ _ (π _ (ε 28) _) _;go_frame;refine bG (v:=I4 b) β (λ_ _ _ h=>h) Yh c ?_ ?_
 .intro l a;have f:=a.hand.c0;clear a;go_simp
 show lX _ _ _ _ _ _ (π _ (ε 29) _) _;go_frame;refine bG (v:=iY y) β (λ_ _ _ h=>h) Yh c ?_ ?_
 .intro l a;have f:=a.hand.c0;clear a;go_simp
 show lX _ _ _ _ _ _ (π _ (ε 30) _) _;go_frame;refine bG (v:=iY y) β (λ_ _ _ h=>h) Yh c ?_ ?_
 .intro l a;have f:=a.hand.c0;clear a;go_simp
 show lX _ _ _ _ _ _ (π _ (ε 31) _) _;go_frame;refine bG (v:=I4 b) β (λ_ _ _ h=>h) Yh c ?_ ?_
 .intro l a;have f:=a.hand.c0;clear a;go_simp
 show lX _ _ _ _ _ _ (π _ (ε 33) _) _;go_frame;refine bG (v:=iY gate) β (λ_ _ _ h=>h) Yh c ?_ ?_
 .intro l a;have f:=a.hand.c0;clear a;go_simp
 show lX _ _ _ _ _ _ (π _ (ε 34) _) _;go_frame;refine bG (v:=iY d) β (λ_ _ _ h=>h) Yh c ?_ ?_
 .intro l a;have f:=a.hand.c0;clear a;go_simp
 show lX _ _ _ _ _ _ (π _ (ε 35) _) _;go_frame;refine bD β (λK hK=>?_);go_simp;refine (mD b _ y y _ (N B) (N B) (SAt.drew (N U))).mono ?_;rintro e w4 ⟨rfl,h,k⟩;have m:=c.kept k;refine hK _ _ (λ_=>m) ?_;clear hK K c;have V:=γ h;have O:=γ (((N L).trans (oZ w3) (Aa β)).trans k (Aa β));clear h k U L;refine bD β (λK hK=>?_);go_simp;refine (mD b _ gate d _ (N Rg) (N Q) (N V)).mono ?_;rintro e w5 ⟨rfl,h,k⟩;have j:=m.kept k;refine hK _ _ (λ_=>j) ?_;clear hK K m;have S:=γ h;have P:=γ ((N O).trans k (Aa β));have D:=γ j;clear h k V O;refine bD β (λK hK=>?_);go_simp;refine hK _ _ (λ_=>j) ?_;clear hK K;refine bD β (λK hK=>?_);go_simp;refine hK _ _ (λ_=>j) ?_;clear hK K j;refine fZ ?_;have K:=P;clear P;have f:=(N D).hand.c0;go_wp2_with fail;clear f;refine (aHm b _ y d _ (((((N A).bend _).bend _).bend _).bend _) (N B) (N Q) (N S)).mono ?_;rintro e w6 ⟨rfl,h,k⟩;have S6:=γ h;have K6:=γ ((N K).trans k (Aa β));clear h k S K D;go_wp2_with fail;go_ret;have OV:sU s z r gate=false:=by apply WX<;>rw[<-N q]<;>first|(rw[<-N t];omega)|omega
 unfold oL nN;rw[OV];refine⟨β,?_,N K6⟩;have Y:=N S6;rw[N t,N q] at Y;exact Y
theorem aCZ(b)(s)(z r gate)(w)(hs:s.Ok)(hz:ζ z)(hr:ζ r)(hg:ζ gate)(h:SAt w b s):μ ι 221 #[I4 b,.int .i64 z,.int .i64 r,.int .i64 gate] w λe w'=>e=.returned (.bool (oL s z r gate))/\SAt w' b (nN s z r gate)/\κ b w w':=by
 by_cases hd:τ s r<=0
 .exact aDa b s z r gate w hs hz hr hg h hd
 by_cases a:fD gate (τ s r)<fD (υ s z) (υ s z)
 .exact aAO b s z r gate w hs hz hr hg h hd a
 exact aAP b s z r gate w hs hz hr hg h hd a
theorem yM(w)(s):∃w1,w1=w.alloc (.cells #[.int .i64 s.X,.int .i64 s.V,.int .i64 s.P00,.int .i64 s.P01,.int .i64 s.P11,.bool s.B,.int .i64 s.M] 31)/\SAt w1 w.heap.size s/\Below w.heap.size w w1/\w1.heap.size=w.heap.size+1:=
 ⟨_,rfl,SAt.new w s,bU w _,fA w _⟩
theorem JV(w)(s):∃w2,w2=(w.alloc (.cells #[.int .i64 s.X,.int .i64 s.V,.int .i64 s.P00,.int .i64 s.P01,.int .i64 s.P11,.bool s.B,.int .i64 s.M] 31)).alloc (.cells #[.int .i64 0,.int .i64 0,.int .i64 0,.int .i64 0,.int .i64 0,.bool false,.int .i64 0] 31)/\SAt w2 w.heap.size s/\SAt w2 (w.heap.size+1) St.nil/\Below w.heap.size w w2:=by obtain⟨c,e1,h1,k1,d⟩:=yM w s;obtain⟨w2,e2,h2,a,f⟩:=yM c St.nil;rw[d] at h2;exact⟨w2,by rw[e2,e1];rfl,h1.below a,h2,k1.trans (a.mono k1.size)⟩
theorem aDj(s)(dt q)(w)(hs:s.Ok)(hdt:ζ dt)(hq:ζ q):μ ι 182 #[qQ s,.int .i64 dt,.int .i64 q] w λe w'=>e=.returned (qQ (sV s dt q))/\Below w.heap.size w w':=by obtain⟨w2,e2,h2,m,o⟩:=JV w s;have D:=γ hs;have F:=γ hdt;have I:=γ hq;have E2:=γ e2;have A:=γ h2;have G2:=γ m;have f:=γ o;clear hs hdt hq e2 h2 m o;go_in;go_wp2_with fail;rw[<-N E2];refine (aAN w.heap.size s dt q _ (N D) (N F) (N I) (N A)).mono ?_;rintro e w3 ⟨rfl,h3,d⟩;have a:=(N G2).kept d Yo;have j:=γ (aF (N f) d (Xr _) (N f).size);obtain⟨t,c⟩:=wZ (sV s dt q);rw[<-c] at h3;have z:=γ c;obtain⟨S,T,U,V,W,X,Y⟩:=h3.cs;obtain⟨J,K,L,O,P,Q,R⟩:=a.cs;obtain⟨Z,f1,f2,f3,f4,f5,f6⟩:=a.fs;obtain⟨w4,l,n,p⟩:=a.put t;have y:=γ l;have B:=γ n;have C:=γ (aF (N j) p Yo (N j).size);clear h3 d a c l n p;go_wp2_with fail;rw[<-N y];obtain⟨p0,p1,p2,p3,p4,p5,p6⟩:=(N B).cs;refine Λ (v:=qQ t) (by simp[Ψ,Tryz.results182,go_sem,p0,p1,p2,p3,p4,p5,p6]) β ⟨by rw[N z],N C⟩
theorem aGa(s)(z r gate)(w)(hs:s.Ok)(hz:ζ z)(hr:ζ r)(hg:ζ gate):μ ι 181 #[qQ s,.int .i64 z,.int .i64 r,.int .i64 gate] w λe w'=>e=.returned (.tuple #[qQ (nN s z r gate),.bool (oL s z r gate)])/\Below w.heap.size w w':=by obtain⟨w2,e2,h2,n,p⟩:=JV w s;have I:=γ hs;have L:=γ hz;have K:=γ hr;have J:=γ hg;have E2:=γ e2;have C:=γ h2;have G2:=γ n;have j:=γ p;clear hs hz hr hg e2 h2 n p;go_in;go_wp2_with fail;rw[<-N E2];refine (aCZ w.heap.size s z r gate _ (N I) (N L) (N K) (N J) (N C)).mono ?_;rintro e w3 ⟨rfl,h3,f⟩;have a:=(N G2).kept f Yo;have l:=γ (aF (N j) f (Xr _) (N j).size);obtain⟨t,d⟩:=wZ (nN s z r gate);obtain⟨O,c⟩:=wZ (oL s z r gate);rw[<-d] at h3;rw[<-c];have B:=γ d;have A:=γ c;obtain⟨W,X,Y,Z,c4,c5,c6⟩:=h3.cs;obtain⟨P,Q,R,S,T,U,V⟩:=a.cs;obtain⟨f0,f1,f2,f3,f4,f5,f6⟩:=a.fs;obtain⟨w4,m,o,q⟩:=a.put t;have y:=γ m;have D:=γ o;have F:=γ (aF (N l) q Yo (N l).size);clear h3 f a d c m o q;go_wp2_with fail;rw[<-N y];obtain⟨p0,p1,p2,p3,p4,p5,p6⟩:=(N D).cs;refine Λ (v:=.tuple #[qQ t,χ O]) (by simp[Ψ,Tryz.results181,go_sem,p0,p1,p2,p3,p4,p5,p6]) β ⟨by rw[N B,N A],N F⟩
def TAt(w:ο)(b:η)(t:Tn):Prop:=w.heap[b]?=ε (σ #[ν ξ t.Dt,ν ξ t.Q,ν ξ t.R,ν ξ t.G] 27 (0,0))
variable{t:Tn}
theorem TAt.c0(h:TAt w b t):w.cell? ⟨b,0,δ⟩=ε (.int .i64 t.Dt):=by unfold φ;rw[h];rfl
theorem TAt.c1(h:TAt w b t):w.cell? ⟨b,1,δ⟩=ε (.int .i64 t.Q):=by unfold φ;rw[h];rfl
theorem TAt.c2(h:TAt w b t):w.cell? ⟨b,2,δ⟩=ε (.int .i64 t.R):=by unfold φ;rw[h];rfl
theorem TAt.c3(h:TAt w b t):w.cell? ⟨b,3,δ⟩=ε (.int .i64 t.G):=by unfold φ;rw[h];rfl
theorem TAt.lt(h:TAt w b t):b<w.heap.size:=Cq h
theorem TAt.same(h:TAt w b t)(e:w'.heap[b]?=w.heap[b]?):TAt w' b t:=e.trans h
theorem TAt.below(h:TAt w b t)(k:Below w.heap.size w w'):TAt w' b t:=h.same (k.block b h.lt)
theorem TAt.kept(h:TAt w b t)(k:κ z w w')(hz:b≠z):TAt w' b t:=h.same (k.block b h.lt hz)
theorem TAt.new(w:ο)(t):TAt (w.alloc (.cells #[.int .i64 t.Dt,.int .i64 t.Q,.int .i64 t.R,.int .i64 t.G] 27)) w.heap.size t:=by show (w.heap.push _)[w.heap.size]?=_;rw[Bt]
structure ST (bs bt:η) (s:St) (t:Tn) (w:ο):Prop where
 st:SAt w bs s
 tn:TAt w bt t
variable{bs bt:η}
theorem ST.below(h:ST bs bt s t w)(k:Below w.heap.size w w'):ST bs bt s t w':=⟨h.st.below k,h.tn.below k⟩
theorem ST.kept(h:ST bs bt s t w)(k:κ z w w')(n1:bs≠z)(n2:bt≠z):ST bs bt s t w':=⟨h.st.kept k n1,h.tn.kept k n2⟩
theorem ST.drew(h:ST bs bt s t w):ST bs bt s t w.drew:=⟨h.st,h.tn⟩
theorem TK(w)(s)(t):∃w3,w3=((w.alloc (.cells #[.int .i64 s.X,.int .i64 s.V,.int .i64 s.P00,.int .i64 s.P01,.int .i64 s.P11,.bool s.B,.int .i64 s.M] 31)).alloc (.cells #[.int .i64 t.Dt,.int .i64 t.Q,.int .i64 t.R,.int .i64 t.G] 27)).alloc (.cells #[.int .i64 0,.int .i64 0,.int .i64 0,.int .i64 0,.int .i64 0,.bool false,.int .i64 0] 31)/\ST w.heap.size (w.heap.size+1) s t w3/\SAt w3 (w.heap.size+1+1) St.nil/\Below w.heap.size w w3:=by obtain⟨a,e1,h1,k1,m⟩:=yM w s;have h2:=TAt.new a t;have d:=bU a (σ #[iY t.Dt,iY t.Q,iY t.R,iY t.G] 27);have j:=fA a (σ #[iY t.Dt,iY t.Q,iY t.R,iY t.G] 27);rw[m] at h2 j;rw[<-e1];generalize a.alloc (σ #[iY t.Dt,iY t.Q,iY t.R,iY t.G] 27)=w2 at*;obtain⟨w3,l,h3,c,n⟩:=yM w2 St.nil;rw[j] at h3;have f:=k1.trans (d.mono k1.size);exact⟨w3,l,⟨(h1.below d).below c,h2.below c⟩,h3,f.trans (c.mono f.size)⟩
theorem aLW(s)(t)(z)(w)(hs:s.Ok)(ht:t.Ok)(hz:ζ z):μ ι 125 #[qQ s,tnV t,.int .i64 z] w λe w'=>e=.returned (.tuple #[qQ (X9 s t z),.bool (LD s t z)])/\Below w.heap.size w w':=by
 obtain⟨L,e1,D,I,k1⟩:=TK w s t;have C:=γ hs;have m:=γ ht;have V:=γ hz;have E1:=γ e1;have G1:=γ I;have n:=γ k1;have d:ST w.heap.size (w.heap.size+1) s t L.drew:=D.drew;clear hs ht hz e1 D I k1;go_in;go_wp2_with fail;rw[<-N E1];refine dY (S:=ST w.heap.size (w.heap.size+1) s t) [(0,false),(1,false),(2,false),(3,false),(4,false),(6,false),(7,false),(8,false),(9,false),(10,false),(5,true),(11,true),(12,false),(13,false),(14,true),(15,true)] [] Yl Yl ?_;iterate 10
  refine bG (v:=?_) β (λ_ _ _ h=>h) Mq d ?_ ?_;rotate_left 1
  .intro wx a;have q0:=a.tn.c0;have q1:=a.tn.c1;have q2:=a.tn.c2;have q3:=a.tn.c3;obtain⟨c0,c1,c2,c3,c4,c5,c6⟩:=a.st.cs;clear a;go_simp<;>exact rfl
  go_frame
 refine bD β (λK hK=>?_);go_simp;refine (aDj s t.Dt t.Q _ (N C) (N m).Dt (N m).Q).mono ?_;rintro e w2 ⟨rfl,k⟩;have f:=d.below k;refine hK _ _ (λ_=>f) ?_;have G2:=γ (SAt.below (w:=L.drew) (N G1) k);have o:=γ ((aY (N n)).trans (k.mono (N n).size));clear hK K d k G1 n;refine bD β (λK hK=>?_);go_simp;refine (aGa (sV s t.Dt t.Q) z t.R t.G _ (OC (N C) _ _) (N V) (N m).R (N m).G).mono ?_;rintro e w3 ⟨rfl,k⟩;have c:=f.below k;refine hK _ _ (λ_=>c) ?_;have l:=γ ((N G2).below k);have q:=γ ((N o).trans (k.mono (N o).size));clear hK K f k G2 o;rw[show nN (sV s t.Dt t.Q) z t.R t.G=X9 s t z from rfl,show oL (sV s t.Dt t.Q) z t.R t.G=LD s t z from rfl];obtain⟨p,A⟩:=wZ (X9 s t z);obtain⟨tk,y⟩:=wZ (LD s t z);rw[<-A, <-y];have P:=γ A;have O:=γ y;clear A y;iterate 2
  refine bG (v:=?_) β (λ_ _ _ h=>h) Mq c ?_ ?_;rotate_left 1
  .intro wx a;clear a;go_simp<;>exact rfl
  go_frame
 obtain⟨W,X,Y,Z,b4,b5,b6⟩:=(N l).cs;obtain⟨f0,f1,f2,f3,f4,f5,f6⟩:=(N l).fs;obtain⟨w4,F,J,B⟩:=(N l).put p;refine bD β (λK hK=>?_);go_simp;rw[<-F];have j:=c.kept B Yo Yo;refine hK _ _ (λ_=>j) ?_;have T:=γ J;have U:=γ (aF (N q) B Yo (N q).size);clear hK K W X Y Z b4 b5 b6 f0 f1 f2 f3 f4 f5 f6 F J B c l q;refine bD β (λK hK=>?_);go_simp;refine hK _ _ (λ_=>j) ?_;clear hK K j;refine fZ ?_;go_wp2_with fail;obtain⟨p0,p1,p2,p3,p4,p5,p6⟩:=(N T).cs;refine Λ (v:=.tuple #[qQ p,χ tk]) (by simp[Ψ,Tryz.results125,go_sem,p0,p1,p2,p3,p4,p5,p6]) β ⟨by rw[N P,N O],N U⟩
end
end Go.Proofs.YthimcecbgpamdaaGreatDoor
