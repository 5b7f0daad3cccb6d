import Derived.Test.YthimcecbgpamdaaGreatNear159
set_option maxHeartbeats 4000000
namespace Go.Proofs.YthimcecbgpamdaaGreat
open Go.ChangeShapes Go.WideShapes Go.ChangeAt Go.RowKit Go.Joins
set_option maxRecDepth 100000
section
variable {H:Type} {enc:TypeId×Value->H} {w:World} {base:Nat} {held:Bool}
variable{v:Value}{p:List MemPlace}{r:Reach}{b0:Nat}{d:DataW H}
theorem UN(hv:Value.okWide Tryz.prog w r b0 43 v)(h:DataW.Trod enc Tryz.prog w base (λ_=>true) held 43 v d p)(hsz:∀n∈d.weights Tryz.prog 43,n<=reachBytes):∃c:Li,v=aN (kE c) 0 14/\LiOK w c/\c.LL.length*40<=140737488351232:=by
 obtain⟨cs,rfl,_⟩:=okWide_struct Tryz.underlying43 hv;obtain⟨fuel,hf⟩:=h;have hf':DataW.trod enc Tryz.prog w base (λ_=>true) held fuel 43 cs.toList=some (d,p):=hf;obtain⟨c,hl,hc,ok,hn⟩:=aEW _ _ _ hf' hsz;refine⟨c,?_,ok,hn⟩;have:=SN hl hc
 rwa [Array.toArray_toList] at this
variable{x:DataW H×List MemPlace}
theorem aDx{t e:TypeId}{n fuel:Nat}{cs:List Value}(ht:Tryz.prog.underlying t=some (.array n e))(h:DataW.trod enc Tryz.prog w base (λ_=>true) held fuel t cs=some x):∃m,∀i,i<n->∃y,DataW.trod enc Tryz.prog w base (λ_=>true) held m e ((cs.drop (i*Tryz.prog.cellsOf e)).take (Tryz.prog.cellsOf e))=some y/\∀k∈y.1.weights Tryz.prog e,k∈x.1.weights Tryz.prog t:=by
 cases fuel with
 |zero=>simp[DataW.trod] at h
 |succ m=>
  unfold DataW.trod at h;rw[ht] at h;simp only[Option.ite_none_right_eq_some,Option.map_eq_some_iff] at h;obtain⟨hl,xs,hp,rfl⟩:=h;refine⟨m,λi hi=>?_⟩;have hg:=mapM_some_get hp i i (by simp[hi]);have hlen:=mapM_some_length hp;rw[List.length_range] at hlen;refine⟨xs[i]'Yo,by rw[hg,List.getElem?_eq_getElem],λk hk=>?_⟩;simp only[DataW.weights,ht];exact xY (List.mem_map.2 ⟨xs[i],List.getElem_mem _,rfl⟩) k hk
theorem aBe(hv:Value.okWide Tryz.prog w r b0 40 v)(h:DataW.Trod enc Tryz.prog w base (λ_=>true) held 40 v d p)(hsz:∀n∈d.weights Tryz.prog 40,n<=reachBytes):∃(fr:Int) (D:Nat->Nd×Ad),v=aN (gF fr D) 0 297/\R64 fr/\∀i,i<4->NdOK (D i).1/\nJ w (D i).1 (D i).2.1 (D i).2.2:=by
 obtain⟨cv,rfl,_⟩:=okWide_struct Tryz.underlying40 hv;obtain⟨fuel,hf⟩:=h;have h:DataW.trod enc Tryz.prog w base (λ_=>true) held fuel 40 cv.toList=some (d,p):=hf;obtain⟨cs,ecs⟩:∃cs,cs=cv.toList:=⟨_,rfl⟩;rw[<-ecs] at h;obtain⟨xs,m,_,ex,hl,hlen,hx⟩:=DataW.trod_struct Tryz.underlying40 h;have hl:cs.length=297:=hl.trans Yl;have hlen:xs.length=2:=hlen;have p0:=iX (K:=λ_=>false) (n:=1) Tryz.underlying40 (i:=0) rfl flat_int h;have h1:=hx 1 _ rfl;rw[List.getElem?_eq_getElem Yo] at h1;obtain⟨y,ey⟩:∃y,y=xs[1]:=⟨_,rfl⟩;rw[<-ey] at h1;have e4:Tryz.prog.cellsOf 38=296:=by kernel_rfl
 have e1:Tryz.prog.cellsOf 37=74:=by kernel_rfl
 have h1':DataW.trod enc Tryz.prog w base (λ_=>true) held m 38 ((cs.drop 1).take (Tryz.prog.cellsOf 38))=some y:=h1;rw[e4] at h1';obtain⟨q,hq⟩:=aDx Tryz.underlying38 h1';rw[e1] at hq;have:Inhabited (Nd×Ad):=⟨(⟨0,0,⟨0,0,0,0⟩,λ_=>⟨0,0,0,0,0,false,0⟩,⟨λ_=>false,λ_=>0,λ_=>0⟩,λ_ _=>0,λ_=>0,λ_ _=>0,λ_=>0,0,0,false,[]⟩,(none,0))⟩;obtain⟨D,hD⟩:=Go.Deep.choose_lt (α:=Nd×Ad) (n:=4) (p:=λi c=>(∀k,k<74->cs[1+i*74+k]?=some (ndF c.1 (slV c.2 c.1.vA.length) k))/\NdOK c.1/\nJ w c.1 c.2.1 c.2.2) (λi hi=>by
  obtain⟨z,hz,hw⟩:=hq i hi;obtain⟨n,ao,c,_,hc,ok,ag,_⟩:=aHA hz (λk hk=>hsz k (by
   rw[show d=_ from congrArg Prod.fst ex];simp only[DataW.weights,Tryz.underlying40];exact DataW.weights_mem_each (j:=1) (t:=38) (d:=y.1) rfl (by rw[List.getElem?_map,List.getElem?_eq_getElem Yo, <-ey];rfl) k (hw k hk)))
  refine⟨(n,(ao,c)),λk hk=>?_,ok,ag⟩;rw[show 1+i*74+k=1+(i*74+k) by omega, <-mV (n:=296) Yo, <-mV hk];exact hc k hk)
 have k0:=p0 0 cs[0] Yo (show cs[0]?=some cs[0] from List.getElem?_eq_getElem Yo);have hj:∀j,j<297->cs[j]?=some (gF (vI cs[0]) D j):=λj hj=>by
  by_cases e0:j=0
  .subst e0;rw[List.getElem?_eq_getElem Yo];exact congrArg some k0.i.symm
  .have:=(hD ((j-1)/74) Yo).1 ((j-1)%74) Yo;have ej:1+(j-1)/74*74+(j-1)%74=j:=Yo;rw[ej] at this;rw[this];have h2:=LD (vI cs[0]) D (i:=(j-1)/74) (j:=(j-1)%74) Yo;rw[Nat.zero_add,ej] at h2;rw[h2]
 refine⟨vI cs[0],D,?_,k0.R,λi hi=>(hD i hi).2⟩;have:=SN hl hj
 rwa [show cs.toArray=cv by rw[ecs,Array.toArray_toList]] at this
end
end Go.Proofs.YthimcecbgpamdaaGreat
namespace Go.Proofs.YthimcecbgpamdaaGreat
open Go.RowKit
instance iRefCl6_1:EntK Tryz.prog 6:=⟨λargs w=>Yh⟩
variable{w:World}{E:Nat->(Nd×Ad)×Bool}
theorem aNL{W:World}{l:List It}(h:∀i,i<4->(E i).2=true)(H:Cx w W (EF w E::l)):Cx w W (lX w.heap.size (λi=>(E i).1)::l):=
 H.wk (y:=lX w.heap.size (λi=>(E i).1)) (λh0 i hi=>by
  have h1:(wC w (E i)).p W:=h0 i hi;unfold wC at h1;rw[if_pos (h i hi)] at h1;exact h1) (λk ⟨i,hi,hk⟩=>⟨i,hi,by
  show (wC w (E i)).foot k
  unfold wC;rw[if_pos (h i hi)];exact hk⟩)
set_option maxRecDepth 10000 in
theorem tY(fr:Int)(D:Nat->Nd×Ad)(w:World)(hag:∀i,i<4->nJ w (D i).1 (D i).2.1 (D i).2.2)(hok:∀i,i<4->NdOK (D i).1):Calls Tryz.prog 6 #[aN (gF fr D) 0 297] w λe w'=>∃D':Nat->Nd×Ad,e=.returned (aN (gF fr D') 0 297)/\(∀i,(D' i).1=(D i).1)/\Cx w w' [lX w.heap.size D']:=by
 refine bO Tryz.func6 rfl 17 rfl Yd (λA hs hd hb=>?_);have b0:A.eval (.tmp 0)=aN (gF fr D) 0 297:=hb 0 _ rfl;clear hb;have H:=Cx.start w;refine aD (aG ?_);refine iH H ?_;clear H;intro w1 H z1;refine gJ H ?_;clear H;intro w2 H z2;refine aC<|aH<|aD<|qa ?_;refine aC<|aK ?_;replace H:=H.add (Below.refl _ _) (EF w (λi=>(D i,false))) (λi hi=>hag i hi) (λj ⟨_,_,e⟩=>e.elim);refine bX (λr A W => ∃ (i : Nat) (E : Nat -> (Nd × Ad) × Bool), i <= 4 /\ 4 - i <= r /\ A.tmps.size = 17 /\ A.defers = [] /\ A.eval (.tmp 1) = .pointer (some ⟨w.heap.size, 0, none⟩) /\ A.eval (.tmp 2) = .pointer (some ⟨w1.heap.size, 0, none⟩) /\ A.eval (.tmp 3) = .int .i64 (i : Int) /\ (∀ j, (E j).1.1 = (D j).1) /\ (∀ j, j < i -> (E j).2 = true) /\
   Cx w W [EF w E,vhI 40 w1.heap.size 297 297 (pO 0 (λ_=>dI) (λ_=>slV (none,0) 0)),vhI 40 w.heap.size 297 297 (gF fr (λi=>(E i).1))]) 4
  ⟨0,λi=>(D i,false),Xz _,Yo,YA,YB,Qv,Qv,Qv,λ_=>rfl,λj h=>absurd h (Nat.not_lt_zero j),H⟩ (λr B W hI=>?_)
 clear b0 hs hd H;obtain⟨i,E,hi,hr,hs,hd,b1,b2,b3,hE,hT,H⟩:=hI;refine aH<|aD (aG ?_);repeat first|refine qa ?_|refine aC ?_|refine aD ?_|refine aH ?_
 refine fB (λh=>?_) (λh=>?_)
 .have hin:i<4:=by have:=Xu h;omega
  refine aU<|aH (aK ?_);refine aI ?_;iterate 3 refine qa ?_
  refine qg (bD _ _ _ _ rfl ArrK.out SizK.out Qv Qv rfl hin _) ?_;refine qg (Eq.trans (aX _ _ rfl ManyK.out Qv H.v2 Yo) (by rw[jG (f:=ndF (E i).1.1 (slV (E i).1.2 (E i).1.1.vA.length)) (λj hj=>zM fr (λi=>(E i).1) hj)])) ?_;have hv:(E i).1.1.vA.length<=140737488351232:=by rw[hE];exact (hok i hin).vA
  refine mO (show Calls _ _ #[aN (ndF (E i).1.1 (slV (E i).1.2 (E i).1.1.vA.length)) 0 74] _ _ from lT (E i).1.1 (E i).1.2.1 (E i).1.2.2 _ (QG H.o0 H.bel hin) hv) ?_;rintro e w8 ⟨a',c',rfl,o8,k8⟩;refine⟨aN (ndF (E i).1.1 (slV (a',c') (E i).1.1.vA.length)) 0 74,rfl,?_⟩;have hsz:=H.size;replace H:=H.add k8 (vU w.heap.size ((E i).1.1,(a',c'))) (bY o8 hsz) (λj e=>(o8.lt j e).1);refine qa ?_;refine qg (bD _ _ _ _ rfl ArrK.out SizK.out Qv Qv rfl hin _) ?_;refine fJ H.a3 (zQ fr E i ((E i).1.1,(a',c'))) (bP _ _ _ _) ?_;clear H;intro w9 H z9;refine fD<|aI ?_;repeat refine qa ?_
  exact aS ⟨4-(i+1),Yo,i+1,dS E i (((E i).1.1,(a',c')),true),Yo,Yo,YA,YB,Qv,Qv,Eq.trans Qv YC,λj=>by
   by_cases e:j=i
   .rw[e,dD];exact hE i
   .rw[bZ _ _ e];exact hE j,λj hj=>by
   by_cases e:j=i
   .rw[e,dD]
   .rw[bZ _ _ e];exact hT j Yo,mJ (g:=wC w) (y:=(((E i).1.1,(a',c')),true)) i H⟩
 .obtain rfl:i=4:=by have:=Xg h;omega
  refine bQ (dU ?_);refine aD<|qa ?_;refine fJ H.a1 aV (sW _ _) ?_;clear H;intro w5 H z5;refine aC ?_;exact aW (aP YB (pQ rfl Qv ManyK.out H.v1 (Xr _)) ⟨λi=>(E i).1,rfl,hE,(aNL hT H).sub (List.Sublist.cons_cons _ (List.nil_sublist _))⟩)
section
variable {P:Program} {ops:Array Oper} {Q:Exit->Act->World->Prop} {A:Act} {L:List (Nat×Value)} {w0 w W0:World} {o:Oper} {d n i:Nat} {l:List It} {late:Nat->Bool} {r:PlanJ} {ty s:TypeId} {f z:Nat->Value} {x:Operand}
theorem FX(H:Cx w0 w l)(h:∀w',Below w.heap.size w w'->Cx w0 w' (vhI ty w.heap.size n n f::l)->SeqJ P ops Q (λW=>Below W0.heap.size W0 W) late r (aQ A ((d,.pointer (some ⟨w.heap.size,0,none⟩))::L)) w')(hi:ops[i]?=some o:=by rfl)(ho:o.op=.alloc ty:=by rfl)(Z:ZerK P ty n f:=by infer_instance)(hn:n<=maxLen:=by exact Xu rfl)(hd:o.dst=some d:=by rfl)(hw:Region.wanted o (yielded ops (aQ A L).tmps)=true:=by exact dX rfl):SeqJ P ops Q (λW=>Below W0.heap.size W0 W) late (.go i r) (aQ A L) w:=
 dC hi hd hw (λ_ hK=>kU w ty ho Z.out hn (λw' m k _=>hK _ _ (λ_ h0=>h0.trans (k.mono h0.size)) (h w' k (H.add k _ m (λj (e:j=_)=>Nat.le_of_eq e.symm)))))
theorem IL(H:Cx w0 w l)(h:∀w',Cx w0 w' (vhI ty w.heap.size n n f::l)->SeqJ P ops Q (λW=>Below W0.heap.size W0 W) late r (aQ A ((d,.slice (some ⟨w.heap.size,0,none⟩) 1 1)::L)) w')(hi:ops[i]?=some o:=by rfl)(ho:o.op=.buildSlice s 1 #[(0,x)]:=by rfl)(C:SlcK P s ty:=by infer_instance)(M:ManyK P ty n:=by infer_instance)(Z:ZerK P ty n z:=by infer_instance)(hn:n<=16777216:=by decide)(hp:0<n:=by decide)(hx:(aQ A L).eval x=aN f 0 n:=by exact Qv)(hd:o.dst=some d:=by rfl)(hw:Region.wanted o (yielded ops (aQ A L).tmps)=true:=by exact dX rfl):SeqJ P ops Q (λW=>Below W0.heap.size W0 W) late (.go i r) (aQ A L) w:=
 dC hi hd hw (λ_ hK=>zP C.out M.out Z.out hn hp ho hx (λw' m k _=>hK _ _ (λ_ h0=>h0.trans (k.mono h0.size)) (h w' (H.add k _ m (λj (e:j=_)=>Nat.le_of_eq e.symm)))))
theorem aBC{S:World->Prop}{b off:Nat}{g:Nat->Value}(hc:∀k,k<n->w.cell? ⟨b,off+k,none⟩=some (g k))(h:SeqJ P ops Q S late r (aQ A ((d,aN g 0 n)::L)) w)(hi:ops[i]?=some o:=by rfl)(ho:o.op=.load ty x:=by rfl)(M:ManyK P ty n:=by infer_instance)(hx:(aQ A L).eval x=.pointer (some ⟨b,off,none⟩):=by exact Qv)(hd:o.dst=some d:=by rfl)(hw:Region.wanted o (yielded ops (aQ A L).tmps)=true:=by exact dX rfl):SeqJ P ops Q S late (.go i r) (aQ A L) w:=
 dC hi hd hw (λ_ hK=>⟨by
  unfold Oper.wp;rw[iM M.out hc ho hx];exact hK _ _ (λ_ h=>h) h⟩)
end
variable{c:Li}
theorem ZR{b:Nat}(m:Vh 43 w b 14 14 (kE c)):RdS kE 14 w (some ⟨b,0,none⟩) [c]:=λ_=>⟨b,0,rfl,λi d hi k hk=>by
 match i,hi with
 |0,hi=>
  cases hi
  show w.cell? ⟨b,0+0*14+k,none⟩=_
  rw[show 0+0*14+k=k by omega];exact m.cell hk⟩
theorem aAS:∀{L:List Li},L.map Li.x=[c].map Li.x->∃d,L=[d]/\d.x=c.x
 |[],h=>nomatch h
 |[d],h=>⟨d,rfl,(List.cons.inj h).1⟩
 |_::_::_,h=>nomatch (List.cons.inj h).2
theorem aMK(x:Ip)(c:Cl):(xU x c).length<=1000:=Nat.le_trans (aIE x c) Yc
variable{o:Oper}{f:Operand->Value}
theorem aEw(ho:o.op=.build 23 #[])(w:World):(execOp f o).run Tryz.prog w=.ok (.value (aN (qV ⟨0,0,0,0⟩) 0 4)) w:=by
 refine FT (z:=qV ⟨0,0,0,0⟩) (places:=#[(0,1),(1,1),(2,1),(3,1)]) Tryz.underlying23 (λw=>Yl) (λw=>Yl) ho Yl w
theorem aFa(ho:o.op=.build 43 #[(1,.const (.int .i64 (-1)))])(hc:∀v,f (.const v)=v)(w:World):(execOp f o).run Tryz.prog w=.ok (.value (aN (mE (λ_ _=>0) (-1) (.slice none 0 0)) 0 14)) w:=by
 refine FT (z:=mE (λ_ _=>0) 0 (.slice none 0 0)) (places:=#[(0,12),(12,1),(13,1)]) Tryz.underlying43 (λw=>Yl) (λw=>Yl) ho ?_ w;simp only[List.map_toArray,List.map,hc];rfl
set_option maxRecDepth 10000 in
theorem DF(fr:Int)(D:Nat->Nd×Ad)(c:Li)(hfr:R64 fr)(hag:∀i,i<4->NdOK (D i).1/\nJ w (D i).1 (D i).2.1 (D i).2.2)(hc:LiOK w c)(hll:c.LL.length*40<=140737488351232):Calls Tryz.prog 3 #[aN (gF fr D) 0 297,aN (kE c) 0 14] w λe w'=>e=.returned (.bool true)/\Below w.heap.size w w':=by
 refine bO Tryz.func3 rfl 59 rfl Yd (λA hs hd hb=>?_);have b0:A.eval (.tmp 0)=aN (gF fr D) 0 297:=hb 0 _ rfl;have b1:A.eval (.tmp 1)=aN (kE c) 0 14:=hb 1 _ rfl;clear hb;have H:=Cx.start w;refine aD (aG ?_);refine iH H ?_;clear H;intro w1 H z1;refine iH H ?_;clear H;intro w2 H z2;refine qa ?_;refine aC ?_;obtain⟨FC,eFC⟩:∃FC,FC=vJ c.x ⟨fr,λi=>(D i).1⟩:=⟨_,rfl⟩;obtain⟨FE,eFE⟩:∃FE,FE=iU c.x ⟨fr,λi=>(D i).1⟩:=⟨_,rfl⟩;obtain⟨R,eR⟩:∃R,R=xU c.x ⟨fr,λi=>(D i).1⟩:=⟨_,rfl⟩;have hcl0:wE ⟨fr,λi=>(D i).1⟩:=⟨hfr,λi hi=>(hag i hi).1⟩;have hFn:∀(fn:Nat),aIc fn->∀(U:World) (D1:Nat->Nd×Ad) (d:Li),(∀i,(D1 i).1=(D i).1)->(∀i,i<4->nJ U (D1 i).1 (D1 i).2.1 (D1 i).2.2)->d.x=c.x->LiOK U d->Calls Tryz.prog fn #[aN (gF fr D1) 0 297,aN (kE d) 0 14] U λe w'=>∃(D2:Nat->Nd×Ad) (v:Value),e=.returned (.tuple #[aN (gF FC.fr D2) 0 297,v,.int .i64 FE])/\(∀i,i<4->(D2 i).1=FC.nd i)/\Cx U w' [gB U.heap.size 86 14 v R.length (nO nG 14 R),lX U.heap.size D2]:=λfn hF U D1 d hD1 h1 hdx hdo=>by
  have hD1:(λi=>(D1 i).1)=λi=>(D i).1:=funext hD1
  have:=hF d.x fr D1 d.lo d.lc d.LL U rfl hdo.ip (by rw[hD1];exact hcl0) h1 hdo.jr;rw[hD1,hdx, <-eFC, <-eFE, <-eR] at this;rw[<-hdx] at this;exact this
 have hFr:=hFn _ WO;replace H:=H.drew;have hS:(λW'=>Below w2.drew.heap.size w2.drew W') w2.drew:=Below.refl _ _;have hc2:∀q,q<297->w2.drew.cell? ⟨w.heap.size,0+q,none⟩=some (gF fr D q):=λq hq=>H.v1.cellz hq
 have hc3:∀q,q<14->w2.drew.cell? ⟨w1.heap.size,0+q,none⟩=some (kE c q):=λq hq=>H.v0.cellz hq
 refine TK (λA W'=>∃(b5:Nat) (D2:Nat->Nd×Ad) (v:Value),A.tmps.size=59/\A.defers=[]/\A.eval (.tmp 2)=.pointer (some ⟨w.heap.size,0,none⟩)/\A.eval (.tmp 3)=.pointer (some ⟨w1.heap.size,0,none⟩)/\A.eval (.tmp 5)=.pointer (some ⟨b5,0,none⟩)/\(∀i,i<4->(D2 i).1=FC.nd i)/\A.eval (.tmp 6)=v/\A.eval (.tmp 7)=.int .i64 FE/\Cx w W' [vhI 40 b5 297 297 (gF FC.fr D2),gB w.heap.size 86 14 v R.length (nO nG 14 R),lX w.heap.size D2,vhI 43 w1.heap.size 14 14 (kE c),vhI 40 w.heap.size 297 297 (gF fr D)]) (λhT=>?_) (λA V hT=>?_)
 .refine fG (S:=λW'=>Below w2.drew.heap.size w2.drew W') (.rd 0 (.rd 2 (.three 1 3 12 (.two 3 12 (.two 4 12 (.mv 5 (.two 6 12 (.two 7 12 (.mv 8 (.mv 9 (.mv 10 (.mv 11 (.go 12 (.go 13 (.mv 14 (.mv 15 .fin)))))))) (.go 7 (.mv 8 (.mv 9 (.mv 10 (.mv 11 (.go 13 (.mv 14 (.mv 15 .fin))))))))) (.go 6 (.go 7 (.mv 8 (.mv 9 (.mv 10 (.mv 11 (.go 13 (.mv 14 (.mv 15 .fin))))))))))) (.go 4 (.mv 5 (.go 6 (.go 7 (.mv 8 (.mv 9 (.mv 10 (.mv 11 (.go 13 (.mv 14 (.mv 15 .fin)))))))))))) (.go 3 (.go 4 (.mv 5 (.go 6 (.go 7 (.mv 8 (.mv 9 (.mv 10 (.mv 11 (.go 13 (.mv 14 (.mv 15 .fin))))))))))))) (.two 1 12 (.two 4 12 (.mv 5 (.two 6 12 (.two 7 12 (.mv 8 (.mv 9 (.mv 10 (.mv 11 (.go 12 (.go 13 (.mv 14 (.mv 15 .fin)))))))) (.go 7 (.mv 8 (.mv 9 (.mv 10 (.mv 11 (.go 13 (.mv 14 (.mv 15 .fin))))))))) (.go 6 (.go 7 (.mv 8 (.mv 9 (.mv 10 (.mv 11 (.go 13 (.mv 14 (.mv 15 .fin))))))))))) (.go 4 (.mv 5 (.go 6 (.go 7 (.mv 8 (.mv 9 (.mv 10 (.mv 11 (.go 13 (.mv 14 (.mv 15 .fin)))))))))))) (.go 1 (.go 4 (.mv 5 (.go 6 (.go 7 (.mv 8 (.mv 9 (.mv 10 (.mv 11 (.go 13 (.mv 14 (.mv 15 .fin))))))))))))) (.two 1 3 (.go 3 (.go 4 (.mv 5 (.go 6 (.go 7 (.mv 8 (.mv 9 (.mv 10 (.mv 11 (.go 13 (.mv 14 (.mv 15 .fin)))))))))))) (.go 1 (.go 4 (.mv 5 (.go 6 (.go 7 (.mv 8 (.mv 9 (.mv 10 (.mv 11 (.go 13 (.mv 14 (.mv 15 .fin)))))))))))))))) [13] Yl Yl ?_;refine Yr rfl hS (λ_ H=>iM (g:=gF fr D) ManyK.out (λq hq=>aM (hc2 q hq) H) rfl Qv) ?_;refine Yr rfl hS (λ_ H=>iM (g:=kE c) ManyK.out (λq hq=>aM (hc3 q hq) H) rfl Qv) ?_;refine UX (r:=.go 13 (.mv 14 (.mv 15 .fin))) (λA W'=>∃(b5:Nat) (D2:Nat->Nd×Ad) (v:Value),A.tmps.size=59/\A.defers=[]/\A.eval (.tmp 2)=.pointer (some ⟨w.heap.size,0,none⟩)/\A.eval (.tmp 3)=.pointer (some ⟨w1.heap.size,0,none⟩)/\A.eval (.tmp 5)=.pointer (some ⟨b5,0,none⟩)/\(∀i,i<4->(D2 i).1=FC.nd i)/\A.eval (.tmp 23)=aN (gF FC.fr D2) 0 297/\A.eval (.tmp 24)=v/\A.eval (.tmp 25)=.int .i64 FE/\Cx w W' [vhI 40 b5 297 297 (pO 0 (λ_=>dI) (λ_=>slV (none,0) 0)),gB w.heap.size 86 14 v R.length (nO nG 14 R),lX w.heap.size D2,vhI 43 w1.heap.size 14 14 (kE c),vhI 40 w.heap.size 297 297 (gF fr D)]) (λA U hT'=>?_) (λhT'=>?_)
  .clear b0 b1 hs hd H hS;obtain⟨b5,D2,v,hs,hd,b2,b3,b5',hD2,b23,b24,b25,H⟩:=hT';refine wP ?_;refine dK rfl Yw (λK0 hK=>aR _ _ _ _ rfl ManyK.out Qv Qv H.v0 Yo (sW _ _) rfl (λU2 m2 k2 z2'=>hK _ (λh=>absurd h Yc) ?_));replace H:=H.a0.s k2 (m2.congr aV);iterate 2 refine qj ?_
   exact fV (hT _ _ ⟨b5,D2,v,YA,YB,Qv,Qv,Qv,hD2,Qv,Qv,H⟩)
  refine UX (r:=.go 4 (.mv 5 (.go 6 (.go 7 (.mv 8 (.mv 9 (.mv 10 (.mv 11 (.go 13 (.mv 14 (.mv 15 .fin))))))))))) (λA W'=>∃(D1:Nat->Nd×Ad) (b3:Nat) (b5:Nat),A.tmps.size=59/\A.defers=[]/\A.eval (.tmp 2)=.pointer (some ⟨w.heap.size,0,none⟩)/\A.eval (.tmp 3)=.pointer (some ⟨w1.heap.size,0,none⟩)/\A.eval (.tmp 16)=aN (gF fr D1) 0 297/\A.eval (.tmp 18)=.slice (some ⟨b3,0,none⟩) 1 1/\(∀i,(D1 i).1=(D i).1)/\A.eval (.tmp 5)=.pointer (some ⟨b5,0,none⟩)/\Cx w W' [vhI 40 b5 297 297 (pO 0 (λ_=>dI) (λ_=>slV (none,0) 0)),vhI 43 b3 14 14 (kE c),lX w.heap.size D1,vhI 43 w1.heap.size 14 14 (kE c),vhI 40 w.heap.size 297 297 (gF fr D)]) (λA U hT2=>?_) (λhT2=>?_)
  .clear b0 b1 hs hd H hS;obtain⟨D1,b3,b5,hs,hd,b2,b3',b16,b18,hD1,b5',H⟩:=hT2;refine wP ?_;have hr4:RdS kE 14 _ (some ⟨b3,0,none⟩) [c]:=ZR H.v1;refine dC rfl rfl Yw (λK0 hK=>bN _ _ _ _ rfl Qv (EntK.out _ _) (GX _ 1 [c] _ hr4 (λd hd=>by rw[List.mem_singleton.1 hd];exact hc.below H.bel) (by show 1*128<=_;omega) (λd hd=>by rw[List.mem_singleton.1 hd];exact hll)) ?_);rintro e U4 ⟨mo,mc,L,rfl,hx,hr,ho,k4⟩;refine⟨_,rfl,hK _ _ (λ_ h=>h.trans (k4.mono h.size)) ?_⟩;clear hK K0;replace H:=H.call k4;obtain⟨d,rfl,hdx⟩:∃d,L=[d]/\d.x=c.x:=aAS hx;obtain⟨b,o,rfl,hcl⟩:=hr Nat.one_pos;replace hcl:=hcl 0 d rfl;have hdo:=ho d List.mem_cons_self;refine fE rfl rfl (λ_ _ _ h=>h) Yw (λw=>mG (i:=0) _ _ _ _ rfl SlcK.out SizK.out Qv Qv rfl Nat.one_pos w) ?_;refine aBC (g:=kE d) hcl ?_;refine dC rfl rfl Yw (λK0 hK=>dG _ _ _ _ _ rfl Qv Qv (EntK.out _ _) (hFr _ D1 d hD1 (λi hi=>uI (H.o2 i hi)) hdx hdo) ?_);rintro e U7 ⟨D2,v,rfl,hD2,G⟩;refine⟨_,rfl,hK _ _ (λ_ h=>h.trans (G.bel.mono h.size)) ?_⟩;clear hK K0;have hsz:=H.size;replace H:=xS (oI (H.plus G).f1 hsz).f1 hsz;refine qj ?_;refine fE rfl rfl (λ_ _ _ h=>h) Yw (λw=>jU _ rfl Qv w) ?_;refine fE rfl rfl (λ_ _ _ h=>h) Yw (λw=>jX _ rfl Qv w) ?_;refine fE rfl rfl (λ_ _ _ h=>h) Yw (λw=>jV _ rfl Qv w) ?_;exact hT' _ _ ⟨_,D2,v,YA,YB,Qv,Qv,Qv,hD2,Qv,Qv,Qv,(H.f2).sub (.cons_cons _ (.cons_cons _ (.cons_cons _ (.cons _ (.cons _ (List.Sublist.refl _))))))⟩
  refine UX (r:=.two 4 12 (.mv 5 (.two 6 12 (.two 7 12 (.mv 8 (.mv 9 (.mv 10 (.mv 11 (.go 12 (.go 13 (.mv 14 (.mv 15 .fin)))))))) (.go 7 (.mv 8 (.mv 9 (.mv 10 (.mv 11 (.go 13 (.mv 14 (.mv 15 .fin))))))))) (.go 6 (.go 7 (.mv 8 (.mv 9 (.mv 10 (.mv 11 (.go 13 (.mv 14 (.mv 15 .fin))))))))))) (.go 4 (.mv 5 (.go 6 (.go 7 (.mv 8 (.mv 9 (.mv 10 (.mv 11 (.go 13 (.mv 14 (.mv 15 .fin)))))))))))) (λA W'=>∃(D1:Nat->Nd×Ad) (b3:Nat),A.tmps.size=59/\A.defers=[]/\A.eval (.tmp 2)=.pointer (some ⟨w.heap.size,0,none⟩)/\A.eval (.tmp 3)=.pointer (some ⟨w1.heap.size,0,none⟩)/\A.eval (.tmp 16)=aN (gF fr D1) 0 297/\A.eval (.tmp 18)=.slice (some ⟨b3,0,none⟩) 1 1/\(∀i,(D1 i).1=(D i).1)/\Cx w W' [vhI 43 b3 14 14 (kE c),lX w.heap.size D1,vhI 43 w1.heap.size 14 14 (kE c),vhI 40 w.heap.size 297 297 (gF fr D)]) (λA U hT3=>?_) (λhT3=>?_)
  .clear b0 b1 hs hd H hS;obtain⟨D1,b3,hs,hd,b2,b3',b16,b18,hD1,H⟩:=hT3;refine wP ?_;refine uW ?_ ?_
   .have hr4:RdS kE 14 _ (some ⟨b3,0,none⟩) [c]:=ZR H.v0;refine dC rfl rfl Yw (λK0 hK=>bN _ _ _ _ rfl Qv (EntK.out _ _) (GX _ 1 [c] _ hr4 (λd hd=>by rw[List.mem_singleton.1 hd];exact hc.below H.bel) (by show 1*128<=_;omega) (λd hd=>by rw[List.mem_singleton.1 hd];exact hll)) ?_);rintro e U4 ⟨mo,mc,L,rfl,hx,hr,ho,k4⟩;refine⟨_,rfl,hK _ _ (λ_ h=>h.trans (k4.mono h.size)) ?_⟩;clear hK K0;replace H:=H.call k4;obtain⟨d,rfl,hdx⟩:∃d,L=[d]/\d.x=c.x:=aAS hx;obtain⟨b,o,rfl,hcl⟩:=hr Nat.one_pos;replace hcl:=hcl 0 d rfl;have hdo:=ho d List.mem_cons_self;refine fE rfl rfl (λ_ _ _ h=>h) Yw (λw=>mG (i:=0) _ _ _ _ rfl SlcK.out SizK.out Qv Qv rfl Nat.one_pos w) ?_;refine uW ?_ ?_
    .refine aBC (g:=kE d) hcl ?_;refine uW ?_ ?_
     .refine dC rfl rfl Yw (λK0 hK=>dG _ _ _ _ _ rfl Qv Qv (EntK.out _ _) (hFr _ D1 d hD1 (λi hi=>uI (H.o1 i hi)) hdx hdo) ?_);rintro e U7 ⟨D2,v,rfl,hD2,G⟩;refine⟨_,rfl,hK _ _ (λ_ h=>h.trans (G.bel.mono h.size)) ?_⟩;clear hK K0;have hsz:=H.size;replace H:=xS (oI (H.plus G).f1 hsz).f1 hsz;refine qj ?_;refine fE rfl rfl (λ_ _ _ h=>h) Yw (λw=>jU _ rfl Qv w) ?_;refine fE rfl rfl (λ_ _ _ h=>h) Yw (λw=>jX _ rfl Qv w) ?_;refine fE rfl rfl (λ_ _ _ h=>h) Yw (λw=>jV _ rfl Qv w) ?_;refine FX H ?_;clear H;intro U2 k2 H;exact hT' _ _ ⟨_,D2,v,YA,YB,Qv,Qv,Qv,hD2,Qv,Qv,Qv,(H).sub (.cons_cons _ (.cons_cons _ (.cons_cons _ (.cons _ (.cons _ (List.Sublist.refl _))))))⟩
     .refine FX H ?_;clear H;intro U2 k2 H;refine dC rfl rfl Yw (λK0 hK=>dG _ _ _ _ _ rfl Qv Qv (EntK.out _ _) (hFr _ D1 d hD1 (λi hi=>uI (H.o2 i hi)) hdx (hdo.below k2)) ?_);rintro e U7 ⟨D2,v,rfl,hD2,G⟩;refine⟨_,rfl,hK _ _ (λ_ h=>h.trans (G.bel.mono h.size)) ?_⟩;clear hK K0;have hsz:=H.size;replace H:=xS (oI (H.plus G).f1 hsz).f1 hsz;refine qj ?_;refine fE rfl rfl (λ_ _ _ h=>h) Yw (λw=>jU _ rfl Qv w) ?_;refine fE rfl rfl (λ_ _ _ h=>h) Yw (λw=>jX _ rfl Qv w) ?_;refine fE rfl rfl (λ_ _ _ h=>h) Yw (λw=>jV _ rfl Qv w) ?_;exact hT' _ _ ⟨_,D2,v,YA,YB,Qv,Qv,Qv,hD2,Qv,Qv,Qv,(H.f2).sub (.cons_cons _ (.cons_cons _ (.cons_cons _ (.cons _ (.cons _ (List.Sublist.refl _))))))⟩
    .refine FX H ?_;clear H;intro U2 k2 H;refine aBC (g:=kE d) (λq hq=>aM (hcl q hq) k2) ?_;refine dC rfl rfl Yw (λK0 hK=>dG _ _ _ _ _ rfl Qv Qv (EntK.out _ _) (hFr _ D1 d hD1 (λi hi=>uI (H.o2 i hi)) hdx (hdo.below k2)) ?_);rintro e U7 ⟨D2,v,rfl,hD2,G⟩;refine⟨_,rfl,hK _ _ (λ_ h=>h.trans (G.bel.mono h.size)) ?_⟩;clear hK K0;have hsz:=H.size;replace H:=xS (oI (H.plus G).f1 hsz).f1 hsz;refine qj ?_;refine fE rfl rfl (λ_ _ _ h=>h) Yw (λw=>jU _ rfl Qv w) ?_;refine fE rfl rfl (λ_ _ _ h=>h) Yw (λw=>jX _ rfl Qv w) ?_;refine fE rfl rfl (λ_ _ _ h=>h) Yw (λw=>jV _ rfl Qv w) ?_;exact hT' _ _ ⟨_,D2,v,YA,YB,Qv,Qv,Qv,hD2,Qv,Qv,Qv,(H.f2).sub (.cons_cons _ (.cons_cons _ (.cons_cons _ (.cons _ (.cons _ (List.Sublist.refl _))))))⟩
   .refine FX H ?_;clear H;intro U2 k2 H;exact hT2 _ _ ⟨D1,_,_,YA,YB,Qv,Qv,Qv,Qv,hD1,Qv,H⟩
  refine aLu ?_ ?_ ?_
  .refine dC rfl rfl Yw (λK0 hK=>bN _ _ _ _ rfl Qv (EntK.out _ _) (tY fr D _ (λi hi=>Sr.below (hag i hi).2 H.bel) (λi hi=>(hag i hi).1)) ?_);rintro e U1 ⟨D1,rfl,hD1,G⟩;refine⟨_,rfl,hK _ _ (λ_ h=>h.trans (G.bel.mono h.size)) ?_⟩;clear hK K0;have hsz:=H.size;replace H:=oI (H.plus G) hsz;refine uW ?_ ?_
   .refine IL H ?_;clear H;intro U3 H;exact hT3 _ _ ⟨D1,_,YA,YB,Qv,Qv,Qv,Qv,hD1,H⟩
   .refine FX H ?_;clear H;intro U2 k2 H;refine IL H ?_;clear H;intro U3 H;exact hT2 _ _ ⟨D1,_,_,YA,YB,Qv,Qv,Qv,Qv,hD1,Qv,H.f1⟩
  .refine IL H ?_;clear H;intro U3 H;refine uW ?_ ?_
   .refine dC rfl rfl Yw (λK0 hK=>bN _ _ _ _ rfl Qv (EntK.out _ _) (tY fr D _ (λi hi=>Sr.below (hag i hi).2 H.bel) (λi hi=>(hag i hi).1)) ?_);rintro e U1 ⟨D1,rfl,hD1,G⟩;refine⟨_,rfl,hK _ _ (λ_ h=>h.trans (G.bel.mono h.size)) ?_⟩;clear hK K0;have hsz:=H.size;replace H:=oI (H.plus G) hsz;exact hT3 _ _ ⟨D1,_,YA,YB,Qv,Qv,Qv,Qv,hD1,H.f1⟩
   .refine FX H ?_;clear H;intro U2 k2 H;refine dC rfl rfl Yw (λK0 hK=>bN _ _ _ _ rfl Qv (EntK.out _ _) (tY fr D _ (λi hi=>Sr.below (hag i hi).2 H.bel) (λi hi=>(hag i hi).1)) ?_);rintro e U1 ⟨D1,rfl,hD1,G⟩;refine⟨_,rfl,hK _ _ (λ_ h=>h.trans (G.bel.mono h.size)) ?_⟩;clear hK K0;have hsz:=H.size;replace H:=oI (H.plus G) hsz;exact hT2 _ _ ⟨D1,_,_,YA,YB,Qv,Qv,Qv,Qv,hD1,Qv,H.b2⟩
  .refine FX H ?_;clear H;intro U2 k2 H;refine uW ?_ ?_
   .refine dC rfl rfl Yw (λK0 hK=>bN _ _ _ _ rfl Qv (EntK.out _ _) (tY fr D _ (λi hi=>Sr.below (hag i hi).2 H.bel) (λi hi=>(hag i hi).1)) ?_);rintro e U1 ⟨D1,rfl,hD1,G⟩;refine⟨_,rfl,hK _ _ (λ_ h=>h.trans (G.bel.mono h.size)) ?_⟩;clear hK K0;have hsz:=H.size;replace H:=oI (H.plus G) hsz;refine IL H ?_;clear H;intro U3 H;exact hT2 _ _ ⟨D1,_,_,YA,YB,Qv,Qv,Qv,Qv,hD1,Qv,H.f2⟩
   .refine IL H ?_;clear H;intro U3 H;refine dC rfl rfl Yw (λK0 hK=>bN _ _ _ _ rfl Qv (EntK.out _ _) (tY fr D _ (λi hi=>Sr.below (hag i hi).2 H.bel) (λi hi=>(hag i hi).1)) ?_);rintro e U1 ⟨D1,rfl,hD1,G⟩;refine⟨_,rfl,hK _ _ (λ_ h=>h.trans (G.bel.mono h.size)) ?_⟩;clear hK K0;have hsz:=H.size;replace H:=oI (H.plus G) hsz;exact hT2 _ _ ⟨D1,_,_,YA,YB,Qv,Qv,Qv,Qv,hD1,Qv,H.f1.f2⟩
 clear b0 b1 hs hd H hS hc2 hc3;obtain⟨b5,D2,v,hs,hd,b2,b3,b5',hD2,b6,b7,H⟩:=hT;refine aD (aG ?_);iterate 2 refine qa ?_
 refine yU (hFn _ ZG V D c (λ_=>rfl) (λi hi=>Sr.below (hag i hi).2 H.bel) rfl (hc.below H.bel)) ?_;rintro e V1 ⟨E,u,rfl,hE,G⟩;refine⟨_,rfl,?_⟩;replace H:=H.plus G;refine qa ?_;refine qg (jU _ rfl Qv _) ?_;refine qg (jX _ rfl Qv _) ?_;refine qg (jV _ rfl Qv _) ?_;refine gJ H ?_;clear H;intro V2 H z2;refine fJ H.a0 aV (sW _ _) ?_;clear H;intro V3 H z3;iterate 2 refine qa ?_
 refine aC<|aD<|qg (aEw rfl _) ?_;refine mO (Y9 ⟨0,0,0,0⟩ _ ⟨gU,gU,gU,gU⟩) ?_;rintro e V4 ⟨B,rfl,hB,G⟩;refine⟨_,rfl,?_⟩;replace H:=H.plus G;refine qg (aFa rfl (λ_=>rfl) _) ?_;have hBe:(λi=>(B i).1)=λi=>(B i).1:=rfl
 have hX:IpOK ⟨λ_ _=>0, -1,[]⟩:=⟨λ_ _=>gU,by show R64 (-1);unfold R64;omega,λ_ h=>nomatch h⟩;have hBc:wE ⟨0,λi=>(B i).1⟩:=⟨gU,λi hi=>by show NdOK (B i).1;rw[hB i hi];exact (aIJ ⟨gU,gU,gU,gU⟩).2 i hi⟩;refine yU (show Calls _ _ #[aN (gF 0 B) 0 297,aN (mE (λ_ _=>0) (-1) (.slice none 0 0)) 0 14] _ _ from WO ⟨λ_ _=>0, -1,[]⟩ 0 B none 0 [] _ rfl hX hBc (λi hi=>uI (H.o0 i hi)) ⟨λh=>absurd h Yc,λ_ h=>nomatch h⟩) ?_;rintro e V5 ⟨N,nv,rfl,hN,G⟩;refine⟨_,rfl,?_⟩;replace H:=H.plus G;refine qa ?_;refine qg (jU _ rfl Qv _) ?_;refine qg (jX _ rfl Qv _) ?_;refine qg (jV _ rfl Qv _) ?_;refine gJ H ?_;clear H;intro V6 H z6;refine fJ H.a0 aV (sW _ _) ?_;clear H;intro V7 H z7;iterate 2 refine qa ?_
 refine aC ?_;have e1:(vJ ⟨λ_ _=>0, -1,[]⟩ ⟨0,λi=>(B i).1⟩).fr=1:=by
  have e0:iU ⟨λ_ _=>0, -1,[]⟩ ⟨0,λi=>(B i).1⟩=0:=by
   unfold iU;have hid:∀i,i<4->(B i).1.id=(i:Nat):=λi hi=>by rw[hB i hi];unfold jY;rw[qB hi];rfl
   rw[if_neg (by dsimp only;omega),if_neg Yc,if_pos ⟨hid 0 Yo,hid 1 Yo,hid 2 Yo,hid 3 Yo⟩]
  unfold vJ;rw[if_pos e0];rfl
 rw[e1] at H;have rd:∀(B:Nat) (D:Nat->Nd×Ad),(lX B D).p V7->∀i,i<4->nJ V7 (D i).1 (D i).2.1 (D i).2.2:=λB D h i hi=>uI (h i hi)
 have hv:World.ownsRow _ _ _ _ _ _ _:=H.o8;have hu:World.ownsRow _ _ _ _ _ _ _:=H.o5;obtain⟨va,vc,rfl,_⟩:=dP hv;obtain⟨ua,uc,rfl,_⟩:=dP hu;have hlen:∀i,i<4->(D2 i).1.vA.length<=140737488351232:=λi hi=>by rw[hD2 i hi,eFC];exact ((aME hc.ip hcl0).2 i hi).vA
 have hSC:=AZ FC.fr D2 E V7 (λi hi=>by rw[hE i hi,hD2 i hi]) (rd _ D2 H.o9) (rd _ E H.o6) hlen;refine aD ?_;iterate 2 refine qa ?_
 refine qg (qI (b:=true) _ _ rfl Qv Qv (Xt rfl) _) ?_;refine qa ?_;iterate 2 refine qa ?_
 refine bI rfl (dB rfl rfl rfl Qv) (λK0 hK=>dG _ _ _ _ _ rfl Qv Qv (EntK.out _ _) hSC ?_);rintro e V8 ⟨rfl,k4⟩;refine⟨_,rfl,hK _ _ ?_⟩;clear hK K0;refine qg (aL _ _ _ rfl Qv Qv _) ?_;iterate 3 refine qa ?_
 refine bI rfl (dB rfl rfl rfl Qv) (λK0 hK=>dG _ _ _ _ _ rfl Qv Qv (EntK.out _ _) (BA R va ua vc uc V8 ((BZ hv Yc).below k4) ((BZ hu Yc).below k4) (by rw[eR];exact aMK _ _)) ?_);rintro e V9 ⟨rfl,k5⟩;refine⟨_,rfl,hK _ _ ?_⟩;clear hK K0;replace H:=(H.call k4).call k5;refine qg (aL _ _ _ rfl Qv Qv _) ?_;iterate 2 refine qa ?_
 refine qg (aY (v:=.int .i64 1) _ _ rfl OneK.out Qv H.v0 Yo rfl) ?_;refine qg (bL (b:=true) _ _ rfl Qv Qv (Xt rfl) _) ?_;refine qg (aL _ _ _ rfl Qv Qv _) ?_;refine qa ?_;refine aC ?_;exact aW (aP YB (dW rfl Qv) ⟨rfl,H.bel⟩)
theorem Y3(fr:Int)(D:Nat->Nd×Ad)(c:Li)(hfr:R64 fr)(hag:∀i,i<4->NdOK (D i).1/\nJ w (D i).1 (D i).2.1 (D i).2.2)(hc:LiOK w c)(hll:c.LL.length*40<=140737488351232):Calls Tryz.prog 3 #[aN (gF fr D) 0 297,aN (kE c) 0 14] w λe w'=>e=.returned (.bool true)/\Below w.heap.size w w':=DF fr D c hfr hag hc hll
end Go.Proofs.YthimcecbgpamdaaGreat
