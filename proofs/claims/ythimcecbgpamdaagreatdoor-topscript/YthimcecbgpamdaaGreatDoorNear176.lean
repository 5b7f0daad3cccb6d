import Derived.Test.YthimcecbgpamdaaGreatDoorNear178
set_option maxHeartbeats 8000000
namespace Go.Proofs.YthimcecbgpamdaaGreatDoor
open Go.RowKit Go.Lib
def jX(fr:Int)(D:Nat->Nd×Ad)(rd:Nat->Nat->Int)(bad:Int)(lv:Value)(j:Nat):Value:=if j<297 then jU fr D j else lY rd bad lv (j-297)
abbrev plL(B b:Nat)(fr:Int)(D:Nat->Nd×Ad)(c:Li)(p v:Value)(o:List UInt8):List It:=
 [bE 69 b 313 313 (gD (jX fr D c.rd c.bad (.slice c.lo c.LL.length c.lc)) p v),sP B v o,lN B D,fF B 81 3 (.slice c.lo c.LL.length c.lc) c.LL.length (kG JK 3 c.LL),V3 (UN B) c.LL]
structure PlOK (s:Pl) (D:Nat->Nd×Ad) (c:Li):Prop where
 nd:∀i,i<4->(D i).1=s.c.nd i
 x:c.x=s.x
 cl:lT s.c
 ip:IpOK s.x
 bad: -1<=s.x.bad/\s.x.bad<=3
 ly:s.x.ly.length<=400
 lc:c.LL.length<=c.lc
 by_:∀d,d∈c.LL->d.y.n<=140737488351232
 fr:0<=s.c.fr/\s.c.fr<=1073741824
def PlAt(w0 w:World)(b:Nat)(s:Pl):Prop:=∃(D:Nat->Nd×Ad) (c:Li) (p v:Value),PlOK s D c/\I8 b p/\Cx w0 w (plL w0.heap.size b s.c.fr D c p v s.o)
variable{w w0:World}
theorem OJ{x0 x1 x2:It}{l:List It}(B:Nat)(H:Cx w0 w (x0::x1::x2::l)):Cx w0 w [x0,x1,x2,fF B 81 3 (.slice none 0 0) 0 [],V3 (UN B) []]:=
 (((H.sub (m:=[x0,x1,x2]) (.cons_cons _ (.cons_cons _ (.cons_cons _ (List.nil_sublist _))))).add (Below.refl _ _) (V3 (UN B) []) (λ_ h=>nomatch h) (λ_ ⟨_,h,_⟩=>nomatch h)).b3.add (Below.refl _ _) (fF B _ _ _ _ _) (World.ownsRow_nil _ _ _ _) (λ_ e=>nomatch e)).b3
def aCE:Li:=⟨λ_ _=>0, -1,[],none,0⟩
section
variable {f:Operand->Value} {o:Oper}
theorem XJ(ho:o.op=.build 27 #[(0,.const (.int .i64 4294967296)),(1,.const (.int .i64 4294967296)),(2,.const (.int .i64 4294967296)),(3,.const (.int .i64 68719476736))])(hc:∀v,f (.const v)=v)(w:World):(execOp f o).run Tryz.prog w=.ok (.value (aP (kW ⟨4294967296,4294967296,4294967296,68719476736⟩) 0 4)) w:=by
 unfold execOp;rw[ho];simp only[List.map_toArray,List.map_cons,List.map_nil,hc]
 kernel_rfl
theorem XF(ho:o.op=.build 52 #[(1,.const (.int .i64 (-1)))])(hc:∀v,f (.const v)=v)(w:World):(execOp f o).run Tryz.prog w=.ok (.value (aP (lY (λ_ _=>0) (-1) (.slice none 0 0)) 0 14)) w:=by
 unfold execOp;rw[ho];simp only[List.map_toArray,List.map_cons,List.map_nil,hc]
 kernel_rfl
theorem aBt{p q:Operand}(ho:o.op=.build 69 #[(0,p),(1,q)]){fr bad:Int}{D:Nat->Nd×Ad}{rd:Nat->Nat->Int}{lv:Value}(hp:f p=aP (jU fr D) 0 297)(hq:f q=aP (lY rd bad lv) 0 14)(w:World):(execOp f o).run Tryz.prog w=.ok (.value (aP (gD (jX fr D rd bad lv) (.pointer none) (.slice none 0 0)) 0 313)) w:=by
 refine PQ (z:=gD (jX 0 (λ_=>(dW,(none,0))) (λ_ _=>0) 0 (.slice none 0 0)) (.pointer none) (.slice none 0 0)) (places:=#[(0,297),(297,14),(311,2)]) Tryz.underlying69 (λw=>Yl) (λw=>Yl) ho ?_ w;rw[show (Array.map (λp:Nat×Operand=>(p.1,f p.2)) #[(0,p),(1,q)]).toList=[(0,f p),(1,f q)] by simp];rw[hp,hq,CX (off:=0) (n:=297) rfl (sM _ _) Yc,CX (off:=297) (n:=14) rfl (sM _ _) Yc];refine congrArg some ?_;unfold iD;refine congrArg List.toArray (List.map_congr_left λj hj=>?_);have hj:=List.mem_range.1 hj;unfold stP gD jX;by_cases c1:j<297
 .rw[if_neg Yo,if_pos Yo,if_pos Yo,if_pos c1,Nat.sub_zero]
 .by_cases c2:j<311
  .rw[if_pos Yo,if_pos c2,if_neg c1]
  .rw[if_neg Yo,if_neg Yo,if_neg c2,if_neg c2]
end
instance iDrvG_1:ManyK Tryz.prog 69 313:=⟨Many.of _ Tryz.underlying69 rfl Yl⟩
instance iDrvG_3:ZerK Tryz.prog 27 4 (kW ⟨0,0,0,0⟩):=⟨λw=>Yl⟩
instance iDrvG_2:EntK Tryz.prog 14:=⟨λargs w=>Yh⟩
theorem aCo:Tn.Ok ⟨4294967296,4294967296,4294967296,68719476736⟩:=by
 constructor<;>(unfold R64;dsimp only;omega)
theorem neg1_R:R64 (-1):=by unfold R64;omega
theorem QY(w:World):Calls Tryz.prog 14 #[] w λe w'=>∃b,e=.returned (.pointer (some ⟨b,0,none⟩))/\PlAt w w' b FN:=by
 refine bB Tryz.func14 rfl 8 rfl Yd (λA hs hd hb=>?_);clear hb;have H:=Cx.start w;refine aD (aG ?_);refine qa ?_;refine aC<|aD<|qg (XJ rfl (λ_=>rfl) _) ?_;refine kR H ?_;clear H;intro w1 H z1;refine jB H.a0 bX (λ_ _=>rfl) ?_;clear H;intro w2 H z2;refine aC<|aD<|qa ?_;refine kX (uI _ _ aCo) ?_;rintro e w3 ⟨D,rfl,hD,G⟩;refine⟨_,rfl,?_⟩;have hsz:=H.size;replace H:=pI (H.plus G) hsz;refine qg (XF rfl (λ_=>rfl) _) ?_;refine qg (aBt rfl Qv Qv _) ?_;refine lJ H ?_;clear H;intro w4 H z4;refine qa ?_;refine aC ?_;have hsz:=H.size;have hO:PlOK FN D aCE:={ nd:=hD,x:=rfl,cl:=FM aCo,ip:=⟨λ_ _=>R64_nought,neg1_R,λ_ h=>nomatch h⟩,bad:=⟨Int.le_refl _,by decide⟩,ly:=Xz _,lc:=Xr _,by_:=(λ_ h=>nomatch h),fr:=⟨Int.le_refl _,by decide⟩ };refine aN (aK YB (bL rfl Qv) ⟨_,rfl,D,aCE,.pointer none,.slice none 0 0,hO,Or.inl rfl,?_⟩);replace H:=(H.add (Below.refl _ _) (sP w.heap.size (.slice none 0 0) []) ⟨World.ownsRow_nil _ _ _ _,λ_=>rfl⟩ (λj e=>nomatch e)).f1;exact OJ _ H
theorem aIA(l:List UInt8):R64 (iO l):=by
 unfold iO;split
 .exact R64_nought
 split
 .exact R64_nought
 split
 .exact R64_nought
 .exact uW _
variable{l:List Int}{ws:List (List UInt8)}
theorem yS(h:numW ws=some l)(i:Nat):R64 (gL l i):=by
 unfold numW at h;split at h
 .cases h
  unfold gL;rw[List.getD_eq_getElem?_getD,List.getElem?_map]
  cases ws[i]? with
  |none=>exact R64_nought
  |some t=>exact aIA t
 .exact absurd h (by simp)
theorem aBb(fr fr':Int)(D D':Nat->Nd×Ad)(rd:Nat->Nat->Int)(bad:Int)(lv p v:Value):∀j,j<313->stP (gD (jX fr D rd bad lv) p v) (0+0) 297 (jU fr' D') j=gD (jX fr' D' rd bad lv) p v j:=λj hj=>by
 unfold stP gD jX;by_cases c1:j<297
 .rw[if_pos Yo,if_pos Yo,if_pos c1,show j-(0+0)=j by omega]
 .rw[if_neg Yo];by_cases c2:j<311
  .rw[if_pos c2,if_pos c2,if_neg c1,if_neg c1]
  .rw[if_neg c2,if_neg c2]
variable{f:Operand->Value}
theorem XK{o:Oper}{x0 x1 x2 x3:Operand}(ho:o.op=.build 27 #[(0,x0),(1,x1),(2,x2),(3,x3)]){a b c d:Int}(h0:f x0=.int .i64 a)(h1:f x1=.int .i64 b)(h2:f x2=.int .i64 c)(h3:f x3=.int .i64 d)(w:World):(execOp f o).run Tryz.prog w=.ok (.value (aP (kW ⟨a,b,c,d⟩) 0 4)) w:=by
 unfold execOp;rw[ho];simp only[List.map_toArray,List.map_cons,List.map_nil,h0,h1,h2,h3]
 kernel_rfl
instance iDrvU_1:EntK Tryz.prog 38:=⟨λargs w=>Yh⟩
variable{b:Nat}{s:Pl}
set_option maxRecDepth 10000 in
theorem XX(mx:Int)(hm:w0.cell? ⟨1,0,none⟩=some (.int .i64 mx))(hP:PlAt w0 w b s)(ws:List (List UInt8))(ao:Option Addr)(cap:Nat)(hr:RdS xQ 1 w ao ws)(hl:ws.length<=1000000):Calls Tryz.prog 38 #[.pointer (some ⟨b,0,none⟩),.slice ao ws.length cap] w λe w'=>e=.returned (.bool (tunP s ws).isSome)/\PlAt w0 w' b ((tunP s ws).getD s):=by
 obtain⟨D,c,p,v,hO,hp,H⟩:=hP;refine bB Tryz.func38 rfl 36 rfl Yd (λA hs hd hb=>?_);have b0:A.eval (.tmp 0)=.pointer (some ⟨b,0,none⟩):=hb 0 _ rfl;have b1:A.eval (.tmp 1)=.slice ao ws.length cap:=hb 1 _ rfl;clear hb;refine aD (aG ?_);refine qa ?_;refine aC<|aD<|qa ?_;refine kX (pG ws ao cap mx w (aU hm H.bel) hr hl) ?_;rintro e w1 ⟨u,rfl,hu,k1⟩;have no:tunP s ws=none->∀A',A'.defers=[]->A'.eval (.tmp 4)=.bool false->bodyPost Tryz.prog Tryz.f38 (λe w'=>e=.returned (.bool (tunP s ws).isSome)/\PlAt w0 w' b ((tunP s ws).getD s)) .ret A' w1:=λe0 A' hd' h4=>aK hd' (bL rfl h4) ⟨by rw[e0];rfl,by rw[e0];exact⟨D,c,p,v,hO,hp,H.call k1⟩⟩
 cases hN:numW ws with
 |none=>
  refine⟨.tuple #[u,.bool false],rfl,?_⟩;iterate 5 refine qa ?_
  refine aC<|aH<|aD ?_;iterate 3 refine qa ?_
  iterate 3 refine gM ?_
  refine qg (aO _ _ _ rfl Qv Qv _) ?_;refine aC<|aT Qv ?_;refine aD<|qa ?_;refine aC ?_;exact aN (fC (no (by unfold tunP;rw[hN]) _ YB Qv))
 |some l=>
  have G:=hu l hN;obtain⟨a',c',rfl,_⟩:=dY (show World.ownsRow _ _ _ _ _ _ _ from G.o0);refine⟨.tuple #[.slice a' l.length c',.bool true],rfl,?_⟩;iterate 5 refine qa ?_
  refine aC<|aH<|aD ?_;iterate 5 refine qa ?_
  by_cases h4:l.length=4
  .refine qg (dC (b:=false) _ _ rfl Qv Qv (Xf Yo) _) ?_;refine qg (aZ _ _ _ rfl Qv Qv _) ?_;refine aC<|aQ Qv ?_;refine aS ?_;obtain⟨x0,x1,x2,x3,rfl⟩:∃x0 x1 x2 x3,l=[x0,x1,x2,x3]:=by
    match l,h4 with
    |[x0,x1,x2,x3],_=>exact⟨x0,x1,x2,x3,rfl⟩
   have ho:World.ownsRow _ _ _ _ _ _ _:=G.o0;obtain⟨r,rfl,hcell⟩:∃r,a'=some ⟨r,0,none⟩/\∀i,i<4->w1.drew.cell? ⟨r,0+i*1,none⟩=some (.int .i64 (gL [x0,x1,x2,x3] i)):=by
    rcases ho.2 with ⟨_,e⟩|⟨g,cap',cur,e,rest⟩
    .exact absurd (show 4=0 from e) Yo
    .injection e with e1 _ _
     refine⟨g,e1,λi hi=>?_⟩;rw[e1] at ho;have:=ho.cells (g:=g) rfl i (.int .i64 (gL [x0,x1,x2,x3] i)) (by
      unfold rowV;show ((List.range 4).map _)[i]?=_
      rw[List.getElem?_map,List.getElem?_range hi];rfl)
     rw[show 0+i*1=i by omega];have e3:(⟨g,0,none⟩:Addr).add i=⟨g,i,none⟩:=by rw[add_at,Nat.zero_add]
     rw[e3] at this;exact this
   replace H:=(H.plus G).drew;have htn:Tn.Ok ⟨x0,x1,x2,x3⟩:=⟨yS hN 0,yS hN 1,yS hN 2,yS hN 3⟩;have hS:(λW'=>Below w1.drew.heap.size w1.drew W') w1.drew:=Below.refl _ _;refine aH<|eU (S:=λW'=>Below w1.drew.heap.size w1.drew W') (.mv 0 (.mv 1 (.mv 2 (.rd 3 (.mv 4 (.mv 5 (.rd 6 (.mv 7 (.mv 8 (.rd 9 (.mv 10 (.mv 11 (.rd 12 (.mv 13 (.go 14 (.mv 15 (.mv 16 (.go 17 .fin)))))))))))))))))) [17] Yl Yl ?_;iterate 2 refine qj ?_
   refine bS rfl rfl (λ_ _ _ h=>h) Yw (λw=>eB (i:=0) _ _ _ _ rfl SlcK.out SizK.out Qv Qv rfl (show 0<4 by omega) w) ?_;refine Yr rfl hS (λ_ H=>iG OneK.out (aU (hcell 0 Yo) H) rfl Qv) ?_;refine qj ?_;refine bS rfl rfl (λ_ _ _ h=>h) Yw (λw=>eB (i:=1) _ _ _ _ rfl SlcK.out SizK.out Qv Qv rfl (show 1<4 by omega) w) ?_;refine Yr rfl hS (λ_ H=>iG OneK.out (aU (hcell 1 Yo) H) rfl Qv) ?_;refine qj ?_;refine bS rfl rfl (λ_ _ _ h=>h) Yw (λw=>eB (i:=2) _ _ _ _ rfl SlcK.out SizK.out Qv Qv rfl (show 2<4 by omega) w) ?_;refine Yr rfl hS (λ_ H=>iG OneK.out (aU (hcell 2 Yo) H) rfl Qv) ?_;refine qj ?_;refine bS rfl rfl (λ_ _ _ h=>h) Yw (λw=>eB (i:=3) _ _ _ _ rfl SlcK.out SizK.out Qv Qv rfl (show 3<4 by omega) w) ?_;refine Yr rfl hS (λ_ H=>iG OneK.out (aU (hcell 3 Yo) H) rfl Qv) ?_;refine bS rfl rfl (λ_ _ _ h=>h) Yw (λw=>XK (a:=x0) (b:=x1) (c:=x2) (d:=x3) rfl Qv Qv Qv Qv w) ?_;refine bR rfl rfl Yw (λK hK=>aX _ _ _ _ rfl Qv (EntK.out _ _) (uI ⟨x0,x1,x2,x3⟩ _ htn) ?_);rintro e w2 ⟨D',rfl,hD',G2⟩;refine⟨_,rfl,hK _ _ (λ_ h=>h.trans (G2.bel.mono h.size)) ?_⟩;clear hK K;have hsz:=H.size;replace H:=pI (H.plus G2) hsz;iterate 2 refine qj ?_
   refine dS rfl Yw (λK hK=>aW _ _ _ _ rfl ManyK.out Qv Qv H.v2 Yo (nX _ _) rfl (λw3 m3 k3 z3=>hK _ (λh=>absurd h Yc) ?_));replace H:=H.a2.s k3 (m3.congr (aBb _ _ _ _ _ _ _ _ _));refine fI<|aD<|qa ?_;refine aC ?_;have e0:tunP s ws=some { s with c:=begC ⟨x0,x1,x2,x3⟩ }:=by unfold tunP;rw[hN]
   refine aN (aK YB (bL rfl Qv) ⟨by rw[e0];rfl,?_⟩);rw[e0];exact⟨D',c,p,v,{ nd:=hD',x:=hO.x,cl:=FM htn,ip:=hO.ip,bad:=hO.bad,ly:=hO.ly,lc:=hO.lc,by_:=hO.by_,fr:=⟨Int.le_refl _,by show (0:Int)<=1073741824;decide⟩ },hp,(H.f1.tl.b2).sub (.cons_cons _ (.cons_cons _ (.cons_cons _ (.cons _ (.cons_cons _ (.cons_cons _ (List.nil_sublist _)))))))⟩
  .refine qg (dC (b:=true) _ _ rfl Qv Qv (Xt Yo) _) ?_;refine qg (aZ _ _ _ rfl Qv Qv _) ?_;refine aC<|aT Qv ?_;refine aD<|qa ?_;refine aC ?_;exact aN (fC (no (by
    unfold tunP;rw[hN];split
    .rename_i e;cases e;exact absurd rfl h4
    .rfl) _ YB Qv))
variable{i:Nat}{k:List UInt8}
theorem yI{m:Nat}(h:digW k m=some i):i<=m:=by
 unfold digW at h;split at h
 .split at h
  .cases h;omega
  .exact absurd h (by simp)
 .exact absurd h (by simp)
variable{D:Nat->Nd×Ad}{bad fr:Int}{lv v:Value}{rd:Nat->Nat->Int}
theorem Q6{p:Value}{q:Nat}{u:Value}{rd':Nat->Nat->Int}{bad':Int}{lv':Value}(hq:q<14)(h:∀j,j<14->eQ (lY rd bad lv) q u j=lY rd' bad' lv' j):∀j,j<313->eQ (gD (jX fr D rd bad lv) p v) (297+q) u j=gD (jX fr D rd' bad' lv') p v j:=λj hj=>by
 by_cases c1:j<297
 .unfold eQ gD jX;rw[if_neg Yo,if_pos (show j<311 by omega),if_pos c1,if_pos (show j<311 by omega),if_pos c1]
 .by_cases c2:j<311
  .have:=h (j-297) Yo;unfold eQ at this ⊢;unfold gD jX;rw[if_pos c2,if_pos c2,if_neg c1,if_neg c1, <-this];by_cases e:j=297+q
   .rw[if_pos e,if_pos Yo]
   .rw[if_neg e,if_neg Yo]
  .unfold eQ gD;rw[if_neg Yo,if_neg c2,if_neg c2]
theorem NV(rd:Nat->Nat->Int)(bad bad':Int)(lv:Value):∀j,j<14->eQ (lY rd bad lv) 12 (.int .i64 bad') j=lY rd bad' lv j:=λj hj=>by
 unfold eQ lY;by_cases e:j=12
 .rw[if_pos e,if_neg Yo,if_pos e];rfl
 .rw[if_neg e];by_cases c:j<12
  .rw[if_pos c,if_pos c]
  .rw[if_neg c,if_neg c,if_neg e,if_neg e]
theorem GH(rd:Nat->Nat->Int)(bad:Int)(lv lv':Value):∀j,j<14->eQ (lY rd bad lv) 13 lv' j=lY rd bad lv' j:=λj hj=>by
 unfold eQ lY;by_cases e:j=13
 .rw[if_pos e,if_neg Yo,if_neg Yo]
 .rw[if_neg e];by_cases c:j<12
  .rw[if_pos c,if_pos c]
  .rw[if_neg c,if_neg c,if_pos Yo,if_pos Yo]
instance iDrvV_1:EntK Tryz.prog 40:=⟨λargs w=>Yh⟩
instance iDrvV_2:EntK Tryz.prog 41:=⟨λargs w=>Yh⟩
set_option maxRecDepth 10000 in
theorem YZ(hP:PlAt w0 w b s)(ws:List (List UInt8))(ao:Option Addr)(cap:Nat)(hr:RdS xQ 1 w ao ws)(hl:ws.length<=1000000):Calls Tryz.prog 40 #[.pointer (some ⟨b,0,none⟩),.slice ao ws.length cap] w λe w'=>e=.returned (.bool (zC s ws).isSome)/\PlAt w0 w' b ((zC s ws).getD s):=by
 obtain⟨D,c,p,v,hO,hp,H⟩:=hP;refine bB Tryz.func40 rfl 24 rfl Yd (λA hs hd hb=>?_);have b0:A.eval (.tmp 0)=.pointer (some ⟨b,0,none⟩):=hb 0 _ rfl;have b1:A.eval (.tmp 1)=.slice ao ws.length cap:=hb 1 _ rfl;clear hb;refine aD (aG ?_);refine qa ?_;refine aC<|aH<|aD ?_;iterate 2 refine qa ?_
 by_cases h1:ws.length=1
 .refine qg (dC (b:=false) _ _ rfl Qv Qv (Xf Yo) _) ?_;refine aC<|aQ Qv ?_;refine aS ?_;obtain⟨k,rfl⟩:∃k,ws=[k]:=List.length_eq_one_iff.1 h1;obtain⟨tb,to',rfl,hcell⟩:=hr Nat.one_pos;have hcell:=hcell 0 k rfl 0 Yo;refine aD<|qa ?_;refine qg (eB (i:=0) _ _ _ _ rfl SlcK.out SizK.out Qv Qv rfl Nat.one_pos _) ?_;refine qg (iG (v:=tV k) OneK.out hcell rfl Qv) ?_;refine gX (oU k 3 w) ?_;rintro e w1 ⟨n,rfl,hn,k1⟩;replace H:=H.call k1
  cases hN:digW k 3 with
  |none=>
   have e0:zC s [k]=none:=by
    show (digW k 3).map _=none
    rw[hN];rfl
   refine⟨.tuple #[.int .i64 n,.bool false],rfl,?_⟩;iterate 5 refine qa ?_
   refine aC<|aH<|aD<|qa ?_;refine aC<|aQ Qv ?_;refine aS<|aD ?_;iterate 2 refine qa ?_
   refine aC ?_;exact aN (aK YB (bL rfl Qv) ⟨by rw[e0];rfl,by rw[e0];exact⟨D,c,p,v,hO,hp,H⟩⟩)
  |some i=>
   have hi:=yI hN;obtain rfl:=hn i hN;have e0:zC s [k]=some { s with x:={ s.x with bad:=(i:Nat) } }:=by
    show (digW k 3).map _=_
    rw[hN];rfl
   refine⟨.tuple #[.int .i64 (i:Nat),.bool true],rfl,?_⟩;iterate 5 refine qa ?_
   refine aC<|aH<|aD<|qa ?_;refine aC<|aT Qv ?_;refine aJ ?_;iterate 5 refine qa ?_
   refine tY H.a0 (q:=0+297+12) (g':=gD (jX s.c.fr D c.rd (i:Nat) (.slice c.lo c.LL.length c.lc)) p v) (Q6 (q:=12) Yo (NV _ _ _ _)) ?_;clear H;intro w2 H z2;refine aC<|aD ?_;iterate 2 refine qa ?_
   refine aC<|aN (aK YB (bL rfl Qv) ⟨by rw[e0];rfl,?_⟩);rw[e0];have hx:(⟨c.rd,(i:Nat),c.LL.map Lj.y⟩:Ip)={ s.x with bad:=(i:Nat) }:=by rw[<-hO.x];rfl
   exact⟨D,{ c with bad:=(i:Nat) },p,v,{ nd:=hO.nd,x:=hx,cl:=hO.cl,ip:=⟨hO.ip.rd,by show R64 ((i:Nat):Int);unfold R64;omega,hO.ip.g⟩,bad:=⟨by show (-1:Int)<=(i:Nat);omega,by show ((i:Nat):Int)<=3;omega⟩,ly:=hO.ly,lc:=hO.lc,by_:=hO.by_,fr:=hO.fr },hp,H⟩
 .have e0:zC s ws=none:=by
   unfold zC;split
   .exact absurd rfl h1
   .rfl
  refine qg (dC (b:=true) _ _ rfl Qv Qv (Xt Yo) _) ?_;refine aC<|aT Qv ?_;refine aD<|qa ?_;refine aC ?_;exact aN (fC (aK YB (bL rfl Qv) ⟨by rw[e0];rfl,by rw[e0];exact⟨D,c,p,v,hO,hp,H⟩⟩))
set_option maxRecDepth 10000 in
theorem WK(hP:PlAt w0 w b s)(ws:List (List UInt8))(ao:Option Addr)(cap:Nat)(hl:ws.length<=1000000):Calls Tryz.prog 41 #[.pointer (some ⟨b,0,none⟩),.slice ao ws.length cap] w λe w'=>e=.returned (.bool (NM s ws).isSome)/\PlAt w0 w' b ((NM s ws).getD s):=by
 obtain⟨D,c,p,v,hO,hp,H⟩:=hP;refine bB Tryz.func41 rfl 16 rfl Yd (λA hs hd hb=>?_);have b0:A.eval (.tmp 0)=.pointer (some ⟨b,0,none⟩):=hb 0 _ rfl;have b1:A.eval (.tmp 1)=.slice ao ws.length cap:=hb 1 _ rfl;clear hb;refine aD (aG ?_);refine qa ?_;refine aC<|aH<|aD ?_;iterate 2 refine qa ?_
 cases ws with
 |nil=>
  refine qg (dC (b:=false) _ _ rfl Qv Qv (Xf Yc) _) ?_;refine aC<|aQ Qv ?_;refine aS<|aD ?_;iterate 5 refine qa ?_
  refine tY H.a0 (q:=0+297+12) (g':=gD (jX s.c.fr D c.rd (-1) (.slice c.lo c.LL.length c.lc)) p v) (Q6 (q:=12) Yo (NV _ _ _ _)) ?_;clear H;intro w2 H z2;iterate 3 refine qa ?_
  refine tY H.a0 (q:=0+297+13) (g':=gD (jX s.c.fr D c.rd (-1) (.slice none 0 0)) p v) (Q6 (q:=13) Yo (GH _ _ _ _)) ?_;clear H;intro w3 H z3;refine aC<|aD<|qa ?_;refine aC ?_;have hx:(⟨c.rd, -1,[]⟩:Ip)={ s.x with bad:= -1,ly:=[] }:=by rw[<-hO.x];rfl
  have hO':PlOK { s with x:={ s.x with bad:= -1,ly:=[] } } D ⟨c.rd, -1,[],none,0⟩:={ nd:=hO.nd,x:=hx,cl:=hO.cl,ip:=⟨hO.ip.rd,neg1_R,(λ_ h=>nomatch h)⟩,bad:=⟨Int.le_refl _,by show (-1:Int)<=3;decide⟩,ly:=Xz _,lc:=Xr _,by_:=(λ_ h=>nomatch h),fr:=hO.fr };refine aN (aK YB (bL rfl Qv) ⟨rfl,D,⟨c.rd, -1,[],none,0⟩,p,v,hO',hp,?_⟩);exact OJ _ H
 |cons k ws=>
  refine qg (dC (b:=true) _ _ rfl Qv Qv (Xt (by rw[List.length_cons];omega)) _) ?_;refine aC<|aT Qv ?_;refine aD<|qa ?_;refine aC ?_;exact aN (fC (aK YB (bL rfl Qv) ⟨rfl,D,c,p,v,hO,hp,H⟩))
section
variable {f:Operand->Value} {o:Oper}
theorem DZ(x y:Operand)(ho:o.op=.slice 59 x (some y) none none){a:Addr}{n cap:Nat}{z:Int}(hx:f x=.slice (some a) n cap)(hy:f y=.int .i64 z)(hz:z=(i:Int))(hi:i<=n)(hc:i<cap)(w:World):(execOp f o).run Tryz.prog w=.ok (.value (.slice (some (a.add i)) (n-i) (cap-i))) w:=by
 subst hz;have hi2:(i:Int)<=n:=Yo;have hne:¬cap=i:=Yo;unfold execOp;rw[ho];simp only[Option.map_some,Option.map_none];rw[hx,hy];go_simp
theorem Q9(x:Operand)(ho:o.op=.slice 59 x (some (.const (.int .i64 1))) none none){off n cap:Nat}(hx:f x=.slice (some ⟨b,off,none⟩) (n+1) cap)(hc:1<cap)(w:World)(hk:∀v,f (.const v)=v:=by exact λ_=>rfl):(execOp f o).run Tryz.prog w=.ok (.value (.slice (some ⟨b,off+1,none⟩) n (cap-1))) w:=by
 have:=DZ (i:=1) x _ ho hx (hk _) rfl Yo hc w;rw[add_at] at this;exact this
end
variable{q:List (List UInt8)}
theorem zU{o:Nat}(h:RdS xQ 1 w (some ⟨b,o,none⟩) (k::q)):RdS xQ 1 w (some ⟨b,o+1,none⟩) q:=λ_=>⟨b,o+1,rfl,λi c hi j hj=>by
 obtain⟨b',o',e,hc⟩:=h (by simp)
 cases e
 have:=hc (i+1) c hi j hj;rw[show o+(i+1)*1+j=o+1+i*1+j by omega] at this;exact this⟩
theorem aLu{p:Value}(hi:i<4):∀j,j<313->stP (gD (jX fr D rd bad lv) p v) (0+297+0+i*3) 3 (iF (gL l)) j=gD (jX fr D (λs a=>if s=i then gL l a else rd s a) bad lv) p v j:=λj hj=>by
 unfold stP gD jX lY;by_cases c1:j<297
 .rw[if_neg Yo,if_pos (show j<311 by omega),if_pos c1,if_pos (show j<311 by omega),if_pos c1]
 .by_cases c2:j<311
  .rw[if_pos c2,if_neg c1,if_pos c2,if_neg c1];by_cases c3:j-297<12
   .rw[if_pos c3,if_pos c3];by_cases e:(j-297)/3=i
    .rw[if_pos Yo];dsimp only;rw[if_pos e];unfold iF;rw[show j-(0+297+0+i*3)=(j-297)%3 by omega];rfl
    .rw[if_neg Yo];dsimp only;rw[if_neg e]
   .rw[if_neg c3,if_neg c3,if_neg Yo]
  .rw[if_neg Yo,if_neg c2,if_neg c2]
instance iDrvR_1:EntK Tryz.prog 39:=⟨λargs w=>Yh⟩
theorem aEq(h:digW k 3=none):nN s (k::q)=none:=by
 simp only[nN,h]
theorem aEr(h:numW q=none):nN s (k::q)=none:=by
 simp only[nN,h]
 cases digW k 3<;>rfl
theorem OU(h:numW q=some l):l.length=q.length:=by
 unfold numW at h;split at h
 .cases h;exact List.length_map ..
 .exact absurd h (by simp)
theorem aAV{w':World}{B:Nat}(G:Cx w w' [fF B 3 1 v l.length (rowV (iF (gL l)) l.length)])(h:0<l.length):∃r c,v=.slice (some ⟨r,0,none⟩) l.length c/\∀i,i<l.length->w'.cell? ⟨r,i,none⟩=some (.int .i64 (gL l i)):=by
 obtain⟨a',c',rfl,_⟩:=dY (show World.ownsRow _ _ _ _ _ _ _ from G.o0);have ho:World.ownsRow _ _ _ _ _ _ _:=G.o0;rcases ho.2 with ⟨_,e⟩|⟨g,cap',cur,e,rest⟩
 .exact absurd (show l.length=0 from e) Yo
 .injection e with e1 _ _
  subst e1;refine⟨g,c',rfl,λi hi=>?_⟩;have:=ho.cells (g:=g) rfl i (.int .i64 (gL l i)) (by
   unfold rowV;rw[List.getElem?_map,List.getElem?_range hi];rfl)
  have e3:(⟨g,0,none⟩:Addr).add i=⟨g,i,none⟩:=by rw[add_at,Nat.zero_add]
  rw[e3] at this;exact this
theorem aEp(h:ws.length≠4):nN s ws=none:=by
 unfold nN;split
 .split
  .rename_i e;unfold numW at e;split at e
   .have:=congrArg List.length (Option.some.inj e);rw[List.length_map] at this;exact absurd (show _+1=4 by rw[this];rfl) h
   .exact absurd e (by simp)
  .rfl
 .rfl
set_option maxRecDepth 10000 in
theorem XB(mx:Int)(hm:w0.cell? ⟨1,0,none⟩=some (.int .i64 mx))(hP:PlAt w0 w b s)(ws:List (List UInt8))(ao:Option Addr)(cap:Nat)(hr:RdS xQ 1 w ao ws)(hl:ws.length<=1000000)(hlc:ws.length<=cap):Calls Tryz.prog 39 #[.pointer (some ⟨b,0,none⟩),.slice ao ws.length cap] w λe w'=>e=.returned (.bool (nN s ws).isSome)/\PlAt w0 w' b ((nN s ws).getD s):=by
 obtain⟨D,c,p,v,hO,hp,H⟩:=hP;refine bB Tryz.func39 rfl 40 rfl Yd (λA hs hd hb=>?_);have b0:A.eval (.tmp 0)=.pointer (some ⟨b,0,none⟩):=hb 0 _ rfl;have b1:A.eval (.tmp 1)=.slice ao ws.length cap:=hb 1 _ rfl;clear hb;have no:nN s ws=none->∀A' w',Cx w0 w' (plL w0.heap.size b s.c.fr D c p v s.o)->A'.defers=[]->A'.eval (.tmp 4)=.bool false->bodyPost Tryz.prog Tryz.f39 (λe w'=>e=.returned (.bool (nN s ws).isSome)/\PlAt w0 w' b ((nN s ws).getD s)) .ret A' w':=λe0 A' w' H' hd' h4=>aK hd' (bL rfl h4) ⟨by rw[e0];rfl,by rw[e0];exact⟨D,c,p,v,hO,hp,H'⟩⟩
 refine aD (aG ?_);refine qa ?_;refine aC<|aH<|aD ?_;iterate 2 refine qa ?_
 by_cases h4:ws.length=4
 .refine qg (dC (b:=false) _ _ rfl Qv Qv (Xf Yo) _) ?_;refine aC<|aQ Qv ?_;refine aS ?_;obtain⟨k,q,rfl⟩:∃k q,ws=k::q:=by
   cases ws with
   |nil=>exact absurd h4 (by simp)
   |cons k q=>exact⟨k,q,rfl⟩
  obtain⟨tb,to',rfl,hcell⟩:=hr Yo;have hcell:=hcell 0 k rfl 0 Yo;have hq3:q.length=3:=by rw[List.length_cons] at h4;omega
  refine aD<|qa ?_;refine qg (eB (i:=0) _ _ _ _ rfl SlcK.out SizK.out Qv Qv rfl Yo _) ?_;refine qg (iG (v:=tV k) OneK.out hcell rfl Qv) ?_;have hm1:=aU hm H.bel;refine gX (oU k 3 w) ?_;rintro e w1 ⟨n,rfl,hn,k1⟩;replace H:=H.call k1;have hr1:RdS xQ 1 w1 (some ⟨tb,to'+1,none⟩) q:=zU (λh=>by
   obtain⟨b',o',e,hc⟩:=hr h;exact⟨b',o',e,λi c hi j hj=>aU (hc i c hi j hj) k1⟩)
  have hm2:=aU hm1 k1
  cases hD:digW k 3 with
  |none=>
   refine⟨.tuple #[.int .i64 n,.bool false],rfl,?_⟩;iterate 5 refine qa ?_
   refine aC<|aD<|qa ?_;refine qg (Q9 _ rfl Qv Yo _) ?_;refine kX (pG q (some ⟨tb,to'+1,none⟩) (cap-1) mx w1 hm2 hr1 Yo) ?_;rintro e w2 ⟨u,rfl,hu,k2⟩;replace H:=H.call k2;refine⟨_,rfl,?_⟩;iterate 5 refine qa ?_
   refine aC<|aH<|aD ?_;iterate 3 refine qa ?_
   iterate 2 refine gM ?_
   refine qg (aO _ _ _ rfl Qv Qv _) ?_;refine aC<|aT Qv ?_;refine aD<|qa ?_;refine aC ?_;exact aN (fC (no (aEq hD) _ _ H YB Qv))
  |some i=>
   have hi:=yI hD;obtain rfl:=hn i hD;refine⟨.tuple #[.int .i64 (i:Nat),.bool true],rfl,?_⟩;iterate 5 refine qa ?_
   refine aC<|aD<|qa ?_;refine qg (Q9 _ rfl Qv Yo _) ?_;refine kX (pG q (some ⟨tb,to'+1,none⟩) (cap-1) mx w1 hm2 hr1 Yo) ?_;rintro e w2 ⟨u,rfl,hu,k2⟩;replace H:=H.call k2
   cases hN:numW q with
   |none=>
    refine⟨.tuple #[u,.bool false],rfl,?_⟩;iterate 5 refine qa ?_
    refine aC<|aH<|aD ?_;iterate 5 refine qa ?_
    refine qg (aZ _ _ _ rfl Qv Qv _) ?_;refine aC<|aT Qv ?_;refine aD<|qa ?_;refine aC ?_;exact aN (fC (no (aEr hN) _ _ H YB Qv))
   |some l=>
    have hl3:l.length=3:=(OU hN).trans hq3;obtain⟨r,c',rfl,hc⟩:=aAV (hu l hN) Yo;refine⟨.tuple #[.slice (some ⟨r,0,none⟩) l.length c',.bool true],rfl,?_⟩;iterate 5 refine qa ?_
    refine aC<|aH<|aD ?_;iterate 5 refine qa ?_
    refine qg (aZ _ _ _ rfl Qv Qv _) ?_;refine aC<|aQ Qv ?_;refine aS<|aD ?_;iterate 5 refine qa ?_
    refine qg (bQ (i:=i) _ _ _ _ rfl ArrK.out SizK.out Qv Qv rfl Yo _) ?_;refine qg (tJ _ rfl Qv _) ?_;refine qa ?_;refine bJ rfl Yw (λK hK=>?_)
    refine QR _ _ _ rfl (f:=iF (gL l)) Qv H.a0.o (by omega) Qv hl3 (λa ha=>by rw[add_at,Nat.zero_add];exact hc a (by omega)) (λ_ _=>rfl) ?_
    intro w3 m3 k3 z3;refine hK _ _ ?_
    clear hK K;replace H:=H.a0.s k3 (m3.congr (aLu (by omega)));refine aC<|aD<|qa ?_;refine aC ?_;obtain⟨x0,x1,x2,rfl⟩:∃x0 x1 x2,l=[x0,x1,x2]:=by
     match l,hl3 with
     |[x0,x1,x2],_=>exact⟨x0,x1,x2,rfl⟩
    have e0:nN s (k::q)=some { s with x:={ s.x with rd:=λj q=>if j=i then gL [x0,x1,x2] q else s.x.rd j q } }:=by
     simp only[nN,hD,hN]
    refine aN (aK YB (bL rfl Qv) ⟨by rw[e0];rfl,?_⟩);rw[e0];have hrr:∀j a,R64 (if j=i then gL [x0,x1,x2] a else s.x.rd j a):=λj a=>by
     split
     .exact yS hN a
     .exact hO.ip.rd j a
    have hrd:c.rd=s.x.rd:=congrArg Ip.rd hO.x;have hx:(⟨λj a=>if j=i then gL [x0,x1,x2] a else c.rd j a,c.bad,c.LL.map Lj.y⟩:Ip)={ s.x with rd:=λj q=>if j=i then gL [x0,x1,x2] q else s.x.rd j q }:=by rw[<-hO.x];rfl
    exact⟨D,{ c with rd:=λj a=>if j=i then gL [x0,x1,x2] a else c.rd j a },p,v,{ nd:=hO.nd,x:=hx,cl:=hO.cl,ip:=⟨hrr,hO.ip.bad,hO.ip.g⟩,bad:=hO.bad,ly:=hO.ly,lc:=hO.lc,by_:=hO.by_,fr:=hO.fr },hp,H⟩
 .refine qg (dC (b:=true) _ _ rfl Qv Qv (Xt Yo) _) ?_;refine aC<|aT Qv ?_;refine aD<|qa ?_;refine aC ?_;exact aN (fC (no (aEp h4) _ _ H YB Qv))
section
variable {f:Operand->Value} {o:Oper}
theorem aBE(x:Operand)(ho:o.op=.slice 59 x (some (.const (.int .i64 3))) none none){off n cap:Nat}(hx:f x=.slice (some ⟨b,off,none⟩) (n+3) cap)(hc:n+3<=cap)(w:World)(hk:∀v,f (.const v)=v:=by exact λ_=>rfl):(execOp f o).run Tryz.prog w=.ok (.value (.slice (some ⟨b,if 3<cap then off+3 else off,none⟩) n (cap-3))) w:=by
 by_cases h:3<cap
 .have:=DZ (i:=3) x _ ho hx (hk _) rfl Yo h w;rw[add_at] at this;rw[if_pos h];exact this
 .obtain rfl:cap=3:=Yo;obtain rfl:n=0:=Yo;unfold execOp;rw[ho];simp only[Option.map_some,Option.map_none];rw[hx,hk];go_simp
variable{ao:Option Addr}
theorem XH(a b c:Operand)(ho:o.op=.build 81 #[(0,a),(1,b),(2,c)]){x y:Int}{n q:Nat}(h0:f a=.int .i64 x)(h1:f b=.int .i64 y)(h2:f c=.slice ao n q)(w:World):(execOp f o).run Tryz.prog w=.ok (.value (aP (lyF x y (.slice ao n q)) 0 3)) w:=by
 unfold execOp;rw[ho];go_simp
 rfl
end
variable{p t:List UInt8}
theorem xC(h:digW p 4=none\/digW t 3=none\/digW k 9=none\/numW q=none):qM s (p::t::k::q)=none:=by
 simp only[qM];split
 .rfl
 .revert h;generalize digW p 4=A;generalize digW t 3=B;generalize digW k 9=C;generalize numW q=E;intro h
  cases A<;>cases B<;>cases C<;>cases E<;>first|rfl|simp at h
theorem aHN{i0 i1 i2:Nat}(h:¬(s.x.bad= -1\/400<=s.x.ly.length))(g0:digW p 4=some i0)(g1:digW t 3=some i1)(g2:digW k 9=some i2)(g3:numW q=some l):qM s (p::t::k::q)=if wrongM (i2:Nat) s.x.bad s.c.fr l.length=0 then some { s with x:={ s.x with ly:=s.x.ly++[⟨(i0:Nat),(i1:Nat),12+8*l.length,enS (i2:Nat) s.x.bad s.c.fr l.length (gL l)⟩] } } else none:=by
 simp only[qM,g0,g1,g2,g3];rw[if_neg h]
theorem BB(h:ws.length<3\/s.x.bad= -1\/400<=s.x.ly.length):qM s ws=none:=by
 unfold qM;split
 .rw[if_pos];rcases h with h|h
  .simp only[List.length_cons] at h;omega
  .exact h
 .rfl
instance iDrvL_1:EntK Tryz.prog 42:=⟨λargs w=>Yh⟩
variable{ao:Option Addr}
theorem aIy{w1:World}(h:RdS xQ 1 w ao ws)(k:Below w.heap.size w w1):RdS xQ 1 w1 ao ws:=λh0=>by
 obtain⟨b',o',e,hc⟩:=h h0;exact⟨b',o',e,λi c hi j hj=>aU (hc i c hi j hj) k⟩
theorem aEn{o:Nat}{a:Addr}(h:RdS xQ 1 w (some ⟨b,o,none⟩) (p::t::k::q))(ha:0<q.length->a=⟨b,o+3,none⟩):RdS xQ 1 w (some a) q:=λh0=>by
 rw[ha h0];exact zU (zU (zU h)) h0
theorem PG(fr:Int)(D:Nat->Nd×Ad)(rd:Nat->Nat->Int)(bad:Int)(lv p v:Value):gD (jX fr D rd bad lv) p v (0+297+12)=.int .i64 bad:=rfl
theorem UX(fr:Int)(D:Nat->Nd×Ad)(rd:Nat->Nat->Int)(bad:Int)(lv p v:Value):gD (jX fr D rd bad lv) p v (0+297+13)=lv:=rfl
theorem aIt(fr:Int)(D:Nat->Nd×Ad)(rd:Nat->Nat->Int)(bad:Int)(lv p v:Value):gD (jX fr D rd bad lv) p v (0+0+0)=.int .i64 fr:=rfl
set_option maxRecDepth 10000 in
theorem aAE(mx:Int)(hm:w0.cell? ⟨1,0,none⟩=some (.int .i64 mx))(hP:PlAt w0 w b s)(ws:List (List UInt8))(ao:Option Addr)(cap:Nat)(hr:RdS xQ 1 w ao ws)(hl:ws.length<=1000000)(hlc:ws.length<=cap):Calls Tryz.prog 42 #[.pointer (some ⟨b,0,none⟩),.slice ao ws.length cap] w λe w'=>e=.returned (.bool (qM s ws).isSome)/\PlAt w0 w' b ((qM s ws).getD s):=by
 obtain⟨D,c,p,v,hO,hp,H⟩:=hP;have eb:s.x.bad=c.bad:=(congrArg Ip.bad hO.x).symm;have el:s.x.ly.length=c.LL.length:=by rw[<-hO.x];exact List.length_map ..
 have hly:=hO.ly;refine bB Tryz.func42 rfl 110 rfl Yd (λA hs hd hb=>?_);have b0:A.eval (.tmp 0)=.pointer (some ⟨b,0,none⟩):=hb 0 _ rfl;have b1:A.eval (.tmp 1)=.slice ao ws.length cap:=hb 1 _ rfl;clear hb;have no:qM s ws=none->∀A' w',Cx w0 w' (plL w0.heap.size b s.c.fr D c p v s.o)->A'.defers=[]->A'.eval (.tmp 4)=.bool false->bodyPost Tryz.prog Tryz.f42 (λe w'=>e=.returned (.bool (qM s ws).isSome)/\PlAt w0 w' b ((qM s ws).getD s)) .ret A' w':=λe0 A' w' H' hd' h4=>aK hd' (bL rfl h4) ⟨by rw[e0];rfl,by rw[e0];exact⟨D,c,p,v,hO,hp,H'⟩⟩
 refine aD (aG ?_);refine qa ?_;refine aC<|aH<|aD ?_;iterate 2 refine qa ?_
 by_cases h3:ws.length<3
 .refine qg (iC (b:=true) _ _ rfl Qv Qv (Xt Yo) _) ?_;refine qa ?_;iterate 6 refine gM ?_
  refine qg (aO _ _ _ rfl Qv Qv _) ?_;refine qa ?_;iterate 7 refine gM ?_
  refine qg (aO _ _ _ rfl Qv Qv _) ?_;refine aC<|aT Qv ?_;refine aD<|qa ?_;refine aC ?_;exact aN (fC (no (BB (Or.inl h3)) _ _ H YB Qv))
 refine qg (iC (b:=false) _ _ rfl Qv Qv (Xf Yo) _) ?_;iterate 5 refine qa ?_
 refine qg (aR _ _ rfl OneK.out Qv H.v0 Yo (PG _ _ _ _ _ _ _)) ?_;by_cases h1:c.bad= -1
 .refine qg (bT (b:=true) _ _ rfl Qv Qv (Xt h1) _) ?_;refine qg (aZ _ _ _ rfl Qv Qv _) ?_;refine qa ?_;iterate 7 refine gM ?_
  refine qg (aO _ _ _ rfl Qv Qv _) ?_;refine aC<|aT Qv ?_;refine aD<|qa ?_;refine aC ?_;exact aN (fC (no (BB (Or.inr (Or.inl (eb.trans h1)))) _ _ H YB Qv))
 refine qg (bT (b:=false) _ _ rfl Qv Qv (Xf h1) _) ?_;refine qg (aZ _ _ _ rfl Qv Qv _) ?_;iterate 5 refine qa ?_
 refine qg (aR _ _ rfl OneK.out Qv H.v0 Yo (UX _ _ _ _ _ _ _)) ?_;refine qa ?_;by_cases h4:400<=c.LL.length
 .refine qg (fU (b:=true) _ _ rfl Qv Qv (Xt Yo) _) ?_;refine qg (aZ _ _ _ rfl Qv Qv _) ?_;refine aC<|aT Qv ?_;refine aD<|qa ?_;refine aC ?_;exact aN (fC (no (BB (Or.inr (Or.inr Yo))) _ _ H YB Qv))
 refine qg (fU (b:=false) _ _ rfl Qv Qv (Xf Yo) _) ?_;refine qg (aZ _ _ _ rfl Qv Qv _) ?_;refine aC<|aQ Qv ?_;refine aS ?_;obtain⟨x0,x1,x2,q,rfl⟩:∃x0 x1 x2 q,ws=x0::x1::x2::q:=by
  match ws,h3 with
  |x0::x1::x2::q,_=>exact⟨x0,x1,x2,q,rfl⟩
  |[],h=>exact absurd (show 0<3 by omega) h
  |[_],h=>exact absurd (show 1<3 by omega) h
  |[_,_],h=>exact absurd (show 2<3 by omega) h
 obtain⟨tb,to',rfl,hcell⟩:=hr Yo;have hm1:=aU hm H.bel;refine aD<|qa ?_;refine qg (eB (i:=0) _ _ _ _ rfl SlcK.out SizK.out Qv Qv rfl Yo _) ?_;refine qg (iG (v:=tV x0) OneK.out (hcell 0 x0 rfl 0 Yo) rfl Qv) ?_;refine gX (oU x0 4 w) ?_;rintro e w1 ⟨n0,rfl,hn0,k1⟩;replace H:=H.call k1;generalize hb0:(digW x0 4).isSome=e0;refine⟨.tuple #[.int .i64 n0,.bool e0],rfl,?_⟩;iterate 5 refine qa ?_
 refine aC<|aD<|qa ?_;refine qg (eB (i:=1) _ _ _ _ rfl SlcK.out SizK.out Qv Qv rfl Yo _) ?_;refine qg (iG (v:=tV x1) OneK.out (aU (hcell 1 x1 rfl 0 Yo) k1) rfl Qv) ?_;refine gX (oU x1 3 w1) ?_;rintro e w2 ⟨n1,rfl,hn1,k2⟩;replace H:=H.call k2;have k12:=k1.trans (k2.mono k1.size);generalize hb1:(digW x1 3).isSome=e1;refine⟨.tuple #[.int .i64 n1,.bool e1],rfl,?_⟩;iterate 5 refine qa ?_
 refine aC<|aD<|qa ?_;refine qg (eB (i:=2) _ _ _ _ rfl SlcK.out SizK.out Qv Qv rfl Yo _) ?_;refine qg (iG (v:=tV x2) OneK.out (aU (hcell 2 x2 rfl 0 Yo) k12) rfl Qv) ?_;refine gX (oU x2 9 w2) ?_;rintro e w3 ⟨n2,rfl,hn2,k3⟩;replace H:=H.call k3;have k13:=k12.trans (k3.mono k12.size);generalize hb2:(digW x2 9).isSome=e2;refine⟨.tuple #[.int .i64 n2,.bool e2],rfl,?_⟩;iterate 5 refine qa ?_
 refine aC<|aD<|qa ?_;refine qg (aBE _ rfl (n:=q.length) Qv (by simp only[List.length_cons] at hlc;omega) _) ?_;have hq:q.length<=1000000:=by simp only[List.length_cons] at hl;omega
 refine kX (pG q (some ⟨tb,if 3<cap then to'+3 else to',none⟩) (cap-3) mx w3 (aU hm1 k13) (aEn (aIy hr k13) (λh=>by rw[if_pos (by simp only[List.length_cons] at hlc;omega)])) hq) ?_;rintro e w4 ⟨u,rfl,hu,k4⟩;replace H:=H.call k4;generalize hb3:(numW q).isSome=e3;refine⟨.tuple #[u,.bool e3],rfl,?_⟩;iterate 5 refine qa ?_
 refine aC<|aH<|aD ?_;iterate 2 refine qa ?_
 cases e0 with
 |false=>
  refine qa ?_;iterate 2 refine gM ?_
  refine qg (aO _ _ _ rfl Qv Qv _) ?_;refine qa ?_;iterate 2 refine gM ?_
  refine qg (aO _ _ _ rfl Qv Qv _) ?_;refine qa ?_;iterate 2 refine gM ?_
  refine qg (aO _ _ _ rfl Qv Qv _) ?_;refine aC<|aT Qv ?_;refine aD<|qa ?_;refine aC ?_;exact aN (fC (no (xC (Or.inl (Option.not_isSome_iff_eq_none.1 (by rw[hb0];decide)))) _ _ H YB Qv))
 |true=>
 refine qa ?_;refine qa ?_
 cases e1 with
 |false=>
  refine qa ?_;refine qg (aZ _ _ _ rfl Qv Qv _) ?_;refine qa ?_;iterate 2 refine gM ?_
  refine qg (aO _ _ _ rfl Qv Qv _) ?_;refine qa ?_;iterate 2 refine gM ?_
  refine qg (aO _ _ _ rfl Qv Qv _) ?_;refine aC<|aT Qv ?_;refine aD<|qa ?_;refine aC ?_;exact aN (fC (no (xC (Or.inr (Or.inl (Option.not_isSome_iff_eq_none.1 (by rw[hb1];decide))))) _ _ H YB Qv))
 |true=>
 refine qa ?_;refine qg (aZ _ _ _ rfl Qv Qv _) ?_;refine qa ?_;refine qa ?_
 cases e2 with
 |false=>
  refine qa ?_;refine qg (aZ _ _ _ rfl Qv Qv _) ?_;refine qa ?_;iterate 2 refine gM ?_
  refine qg (aO _ _ _ rfl Qv Qv _) ?_;refine aC<|aT Qv ?_;refine aD<|qa ?_;refine aC ?_;exact aN (fC (no (xC (Or.inr (Or.inr (Or.inl (Option.not_isSome_iff_eq_none.1 (by rw[hb2];decide)))))) _ _ H YB Qv))
 |true=>
 refine qa ?_;refine qg (aZ _ _ _ rfl Qv Qv _) ?_;refine qa ?_;refine qa ?_
 cases e3 with
 |false=>
  refine qa ?_;refine qg (aZ _ _ _ rfl Qv Qv _) ?_;refine aC<|aT Qv ?_;refine aD<|qa ?_;refine aC ?_;exact aN (fC (no (xC (Or.inr (Or.inr (Or.inr (Option.not_isSome_iff_eq_none.1 (by rw[hb3];decide)))))) _ _ H YB Qv))
 |true=>
 refine qa ?_;refine qg (aZ _ _ _ rfl Qv Qv _) ?_;refine aC<|aQ Qv ?_;refine aS ?_;obtain⟨i0,g0⟩:=Option.isSome_iff_exists.1 hb0;obtain⟨i1,g1⟩:=Option.isSome_iff_exists.1 hb1;obtain⟨i2,g2⟩:=Option.isSome_iff_exists.1 hb2;obtain⟨l,g3⟩:=Option.isSome_iff_exists.1 hb3;obtain rfl:=hn0 i0 g0;obtain rfl:=hn1 i1 g1;obtain rfl:=hn2 i2 g2;have y0:=yI g0;have y1:=yI g1;have y2:=yI g2;obtain⟨ua,uc,rfl,hus,huc⟩:=kK (show World.ownsRow _ _ _ _ _ _ _ from (hu l g3).o0);have hll:=OU g3;replace H:=H.drew;have hus:Sr w4.drew ua l.length uc (iF (gL l)):=hus;have hS:Its [bE 69 b 313 313 (gD (jX s.c.fr D c.rd c.bad (.slice c.lo c.LL.length c.lc)) p v)] w4.drew:=Its.cons H.o0 (Its.nil _);refine aH<|eU (S:=Its [bE 69 b 313 313 (gD (jX s.c.fr D c.rd c.bad (.slice c.lo c.LL.length c.lc)) p v)]) (.mv 0 (.mv 1 (.mv 2 (.mv 3 (.mv 4 (.rd 5 (.mv 6 (.mv 7 (.mv 8 (.mv 9 (.rd 10 (.mv 11 (.mv 12 (.go 13 (.mv 14 (.mv 15 (.mv 16 (.mv 17 (.mv 18 .fin))))))))))))))))))) [] Yl Yl ?_;iterate 5 refine qj ?_
 refine Yr rfl hS (λ_ H=>aR _ _ rfl OneK.out Qv H.v0 Yo (PG _ _ _ _ _ _ _)) ?_;iterate 4 refine qj ?_
 refine Yr rfl hS (λ_ H=>aR _ _ rfl OneK.out Qv H.v0 Yo (aIt _ _ _ _ _ _ _)) ?_;refine qj ?_;refine bS rfl rfl (λ_ _ _ h=>h) Yw (λw=>PR _ _ _ _ rfl Qv Qv Qv Qv w) ?_;have rK:R64 ((i2:Nat):Int):=by unfold R64;omega
 have rF:R64 c.bad:=by rw[<-eb];exact hO.ip.bad
 have rR:R64 s.c.fr:=hO.cl.1;refine bR rfl rfl Yw (λK hK=>aX _ _ _ _ rfl Qv (EntK.out _ _) (I7 (i2:Nat) c.bad s.c.fr ua l.length uc (gL l) w4.drew rK rF rR (yS g3) Yo huc hus) ?_);rintro e w5 ⟨v5,rfl,o5,k5⟩;obtain⟨a5,c5,rfl,hc5⟩:=dY o5;refine⟨_,rfl,hK _ _ (λ_ _=>Its.cons (H.call k5).o0 (Its.nil _)) ?_⟩;clear hK K;have hsz:=H.size;have ea:=aHN (s:=s) Yo g0 g1 g2 g3;rw[eb] at ea;replace H:=H.add k5 (UN w0.heap.size ⟨⟨(i0:Nat),(i1:Nat),wX (i2:Nat) c.bad s.c.fr l.length,enS (i2:Nat) c.bad s.c.fr l.length (gL l)⟩,a5,c5⟩) (dJ o5 hsz) (λj e=>(o5.lt j e).1);iterate 5 refine qj ?_
 refine fI<|aH<|aD<|qa ?_;by_cases hE:wrongM (i2:Nat) c.bad s.c.fr l.length=0
 .refine qg (nQ (b:=false) _ _ rfl Qv Qv (Xf (by rw[hE];decide)) _) ?_;refine aC<|aQ Qv ?_;refine aS<|aD ?_;rw[if_pos hE] at ea;have eL:wX (i2:Nat) c.bad s.c.fr l.length=12+8*l.length:=by unfold wX;rw[if_pos hE]
  have hl24:=(qY hE).2.2.2.2.2.2;iterate 5 refine qa ?_
  refine qg (aR _ _ rfl OneK.out Qv H.v1 Yo (UX _ _ _ _ _ _ _)) ?_;iterate 3 refine qa ?_
  refine qg (XH _ _ _ rfl Qv Qv Qv _) ?_;refine bJ rfl Yw (λK hK=>VO SlcK.out ManyK.out ZerK.out Yc Yc rfl Qv (λV8 m8 k8 z8=>hK _ _ ?_));have hsz8:=H.size;replace H:=H.call k8;refine aEm (bytes:=40) H.a4 (X3 (QA (B:=w0.heap.size) (F:=JK) (x:=⟨⟨(i0:Nat),(i1:Nat),wX (i2:Nat) c.bad s.c.fr l.length,enS (i2:Nat) c.bad s.c.fr l.length (gL l)⟩,a5,c5⟩) m8 Yo)) (IA (λx _=>UT _ _ _ _ _)) Ym Yo ?_;clear H;intro v9 V9 H;have hr9:World.ownsRow _ _ _ _ _ _ _:=H.o4;obtain⟨a9,c9,rfl,hc9⟩:=dY hr9;iterate 3 refine qa ?_
  refine tY H.a1 (q:=0+297+13) (u:=.slice a9 (c.LL.length+1) c9) (g':=gD (jX s.c.fr D c.rd c.bad (.slice a9 (c.LL.length+1) c9)) p v) (Q6 (q:=13) Yo (GH _ _ _ _)) ?_;clear H;intro w10 H z10;refine aC<|aD<|qa ?_;refine aC<|aN (aK YB (bL rfl Qv) ⟨by rw[ea];rfl,?_⟩);rw[ea];obtain⟨x,hx⟩:∃x:Lj,x=⟨⟨(i0:Nat),(i1:Nat),wX (i2:Nat) c.bad s.c.fr l.length,enS (i2:Nat) c.bad s.c.fr l.length (gL l)⟩,a5,c5⟩:=⟨_,rfl⟩;rw[<-hx] at H;have eN:(c.LL++[x]).length=c.LL.length+1:=List.length_append;have ex:Li.x { c with LL:=c.LL++[x],lo:=a9,lc:=c9 }={ s.x with ly:=s.x.ly++[⟨(i0:Nat),(i1:Nat),12+8*l.length,enS (i2:Nat) c.bad s.c.fr l.length (gL l)⟩] }:=by
   rw[<-hO.x];unfold Li.x;dsimp only;rw[List.map_append,hx,eL];rfl
  refine⟨D,{ c with LL:=c.LL++[x],lo:=a9,lc:=c9 },p,v,{ nd:=hO.nd,x:=ex,cl:=hO.cl,ip:=⟨hO.ip.rd,hO.ip.bad,?_⟩,bad:=hO.bad,ly:=?_,lc:=by rw[eN];exact hc9,by_:=?_,fr:=hO.fr },hp,?_⟩
  .intro y hy i;rcases List.mem_append.1 hy with hy|hy
   .exact hO.ip.g y hy i
   .rw[List.mem_singleton.1 hy];exact ZZ _ _ _ _ _ i
  .show (s.x.ly++[_]).length<=400
   rw[List.length_append,el];show c.LL.length+1<=400
   omega
  .intro d hd;rcases List.mem_append.1 hd with hd|hd
   .exact hO.by_ d hd
   .rw[List.mem_singleton.1 hd,hx];show wX _ _ _ _<=_
    omega
  .have H2:=(aDO (f:=UN w0.heap.size) (c:=x) H.f5.f1).b4;rw[<-GY, <-eN] at H2;exact H2
 .refine qg (nQ (b:=true) _ _ rfl Qv Qv (Xt hE) _) ?_;refine aC<|aT Qv ?_;refine aD<|qa ?_;refine aC ?_;exact aN (fC (no (ea.trans (if_neg hE)) _ _ H.tl YB Qv))
variable{u:Nat}
theorem uJ(h:u<16):kU u=[oL u]:=by
 rw[kU,dif_pos h]
theorem P7(h:16<=u):kU u=kU (u/16)++[oL (u%16)]:=by
 rw[kU,dif_neg Yo]
theorem AX:∀(k u:Nat),u<16^(k+1)->(kU u).length<=k+1
 |0,u,h=>by
  rw[uJ (by simpa using h)];exact Xr _
 |k+1,u,h=>by
  by_cases c:u<16
  .rw[uJ c];show 1<=_
   omega
  .rw[P7 Yo,List.length_append];have:=AX k (u/16) (by rw[Nat.div_lt_iff_lt_mul Yo];rw[Nat.pow_succ] at h;exact h);show _+1<=_
   omega
section
variable {f:Operand->Value} {o:Oper}
theorem aBo(x y:Operand)(ho:o.op=.binOp .and 3 x y 3)(hx:f x=.int .i64 16)(hy:f y=.int .i64 (16-1))(w:World):(execOp f o).run Tryz.prog w=.ok (.value (.int .i64 0)) w:=by
 unfold execOp;rw[ho];dsimp only;rw[hx,hy]
 kernel_rfl
theorem aIL(x y:Operand)(ho:o.op=.binOp .eql 83 x y 83)(hx:f x=.int .u64 16)(hy:f y=.int .u64 0)(w:World):(execOp f o).run Tryz.prog w=.ok (.value (.bool false)) w:=by
 unfold execOp;rw[ho];dsimp only;rw[hx,hy]
 kernel_rfl
theorem aIM(x:Operand)(ho:o.op=.unOp .neg 83 x)(hx:f x=.int .u64 16)(w:World):(execOp f o).run Tryz.prog w=.ok (.value (.int .u64 18446744073709551600)) w:=by
 unfold execOp;rw[ho];dsimp only;rw[hx]
 kernel_rfl
theorem aIN(x y:Operand)(ho:o.op=.binOp .and 83 x y 83)(hx:f x=.int .u64 16)(hy:f y=.int .u64 18446744073709551600)(w:World):(execOp f o).run Tryz.prog w=.ok (.value (.int .u64 16)) w:=by
 unfold execOp;rw[ho];dsimp only;rw[hx,hy]
 kernel_rfl
theorem aIO(x y:Operand)(ho:o.op=.binOp .mul 83 x y 83)(hx:f x=.int .u64 16)(hy:f y=.int .u64 285870213051353865)(w:World):(execOp f o).run Tryz.prog w=.ok (.value (.int .u64 4573923408821661840)) w:=by
 unfold execOp;rw[ho];dsimp only;rw[hx,hy]
 kernel_rfl
theorem aIP(x y:Operand)(ho:o.op=.binOp .shr 83 x y 86)(hx:f x=.int .u64 4573923408821661840)(hy:f y=.int .u64 58)(w:World):(execOp f o).run Tryz.prog w=.ok (.value (.int .u64 15)) w:=by
 unfold execOp;rw[ho];dsimp only;rw[hx,hy]
 kernel_rfl
theorem aIR(x:Operand)(ho:o.op=.convert 5 3 x)(hx:f x=.int .u8 4)(w:World):(execOp f o).run Tryz.prog w=.ok (.value (.int .i64 4)) w:=by
 unfold execOp;rw[ho];dsimp only;rw[hx]
 kernel_rfl
theorem aIQ(y:Operand)(ho:o.op=.indexAddr 282 (.global 5) y)(hg:f (.global 5)=.pointer (some ⟨5,0,none⟩))(hy:f y=.int .u64 15)(w:World):(execOp f o).run Tryz.prog w=.ok (.value (.pointer (some ⟨5,15,none⟩))) w:=by
 unfold execOp;rw[ho];dsimp only;rw[hg,hy]
 kernel_rfl
end
instance iDrvH_1:EntK Tryz.prog 177:=⟨λargs w=>Yh⟩
theorem SK(w:World):Calls Tryz.prog 177 #[.int .i64 16] w λe w'=>e=.returned (.bool true)/\Below w.heap.size w w':=by
 refine bB Tryz.func177 rfl 8 rfl Yd (λA hs hd hb=>?_);have b0:A.eval (.tmp 0)=.int .i64 16:=hb 0 _ rfl;clear hb;have H:=Cx.start w;refine aD (aG ?_);refine qa ?_;refine aC<|aD ?_;iterate 3 refine qa ?_
 refine qg (aBo _ _ rfl Qv Qv _) ?_;refine qg (bT (b:=true) _ _ rfl Qv Qv rfl _) ?_;refine qa ?_;refine aC ?_;exact aN (aK YB (bL rfl Qv) ⟨rfl,H.bel⟩)
instance iDrvH_2:EntK Tryz.prog 216:=⟨λargs w=>Yh⟩
theorem aFM(w:World)(hT:w.cell? ⟨5,15,none⟩=some (.int .u8 4)):Calls Tryz.prog 216 #[.int .u64 16] w λe w'=>e=.returned (.int .i64 4)/\Below w.heap.size w w':=by
 refine bB Tryz.func216 rfl 14 rfl Yd (λA hs hd hb=>?_);have b0:A.eval (.tmp 0)=.int .u64 16:=hb 0 _ rfl;clear hb;have H:=Cx.start w;refine aD (aG ?_);refine qa ?_;refine aC<|aH<|aD<|qa ?_;refine qg (aIL _ _ rfl Qv Qv _) ?_;refine aC<|aQ Qv ?_;refine aS<|aD ?_;iterate 2 refine qa ?_
 refine qg (aIM _ rfl Qv _) ?_;refine qg (aIN _ _ rfl Qv Qv _) ?_;refine qg (aIO _ _ rfl Qv Qv _) ?_;refine qg (aIP _ _ rfl Qv Qv _) ?_;refine qg (aIQ _ rfl rfl Qv _) ?_;refine qg (iG (v:=.int .u8 4) OneK.out hT rfl Qv) ?_;refine qg (aIR _ rfl Qv _) ?_;refine qa ?_;refine aC ?_;exact aN (aK YB (bL rfl Qv) ⟨rfl,H.bel⟩)
instance iDrvH_3:EntK Tryz.prog 178:=⟨λargs w=>Yh⟩
theorem aLS(w:World)(hT:w.cell? ⟨5,15,none⟩=some (.int .u8 4)):Calls Tryz.prog 178 #[.int .u64 16] w λe w'=>e=.returned (.int .i64 4)/\Below w.heap.size w w':=by
 refine bB Tryz.func178 rfl 8 rfl Yd (λA hs hd hb=>?_);have b0:A.eval (.tmp 0)=.int .u64 16:=hb 0 _ rfl;clear hb;refine aD (aG ?_);refine qa ?_;refine aC<|aH<|aQ Qv ?_;refine aS<|aD<|qa ?_;refine kX (aFM w hT) ?_;rintro e w1 ⟨rfl,k1⟩;refine⟨_,rfl,?_⟩;refine qa ?_;refine aC ?_;exact aN (aK YB (bL rfl Qv) ⟨rfl,k1⟩)
section
variable {f:Operand->Value} {o:Oper}
theorem XL{b:Bool}(x y:Operand)(ho:o.op=.binOp .geq 83 x y 83){u v:Int}(hx:f x=.int .u64 u)(hy:f y=.int .u64 v)(hb:decide (v<=u)=b)(w:World):(execOp f o).run Tryz.prog w=.ok (.value (.bool b)) w:=by
 subst hb;unfold execOp;rw[ho];dsimp only;rw[hx,hy];go_simp
theorem aBY(x y:Operand)(ho:o.op=.binOp .shr 83 x y 86)(hx:f x=.int .u64 (u:Int))(hy:f y=.int .u64 4)(w:World):(execOp f o).run Tryz.prog w=.ok (.value (.int .u64 ((u/16:Nat):Int))) w:=Yjq
theorem aER(x y:Operand)(ho:o.op=.index 9 x y){l:List UInt8}{k:Nat}(hx:f x=.string ⟨l.toArray⟩)(hy:f y=.int .u64 (k:Int))(hk:k<l.length)(w:World):(execOp f o).run Tryz.prog w=.ok (.value (.int .u8 (l[k].toNat:Int))) w:=by
 unfold execOp;rw[ho];dsimp only;rw[hx,hy];have:(Instr.index 9 (.string ⟨l.toArray⟩) (.int .u64 (k:Int))).run Tryz.prog w=.ok (.int .u8 (l[k].toNat:Int)) w:=by
  rw[run_index_string _ _ _ _ _ Tryz.underlying9,dif_pos ⟨Yo,by show (k:Int)<((l.toArray.size:Nat):Int);rw[List.size_toArray];omega⟩];rfl
 rw[Sem.run_bind,this];rfl
theorem XE(x y:Operand)(ho:o.op=.binOp .and 86 x y 86)(hx:f x=.int .u64 (u:Int))(hy:f y=.int .u64 15)(hu:u<18446744073709551616)(w:World):(execOp f o).run Tryz.prog w=.ok (.value (.int .u64 ((u%16:Nat):Int))) w:=by
 have h:=bits_and_u64_nat u 15 hu Yo;rw[show u &&& 15=u%16 from Nat.and_two_pow_sub_one_eq_mod u 4] at h;unfold execOp;rw[ho];dsimp only;rw[hx,hy];go_simp
 exact h
end
variable{d:Nat}
theorem aHx(h:d<16)(l:List UInt8)(hl:l.take 16=[48,49,50,51,52,53,54,55,56,57,97,98,99,100,101,102]):l[d]?=some (oL d):=by
 have e:l[d]?=(l.take 16)[d]?:=by rw[List.getElem?_take,if_pos h]
 rw[e,hl]
 match d,h with
 |0,_=>rfl
 |1,_=>rfl
 |2,_=>rfl
 |3,_=>rfl
 |4,_=>rfl
 |5,_=>rfl
 |6,_=>rfl
 |7,_=>rfl
 |8,_=>rfl
 |9,_=>rfl
 |10,_=>rfl
 |11,_=>rfl
 |12,_=>rfl
 |13,_=>rfl
 |14,_=>rfl
 |15,_=>rfl
 |n+16,h=>exact absurd h Yo
instance iDrvH3_1:ZerK Tryz.prog 222 65 (λ_=>.int .u8 0):=⟨λw=>Yl⟩
instance iDrvH3_2:EntK Tryz.prog 118:=⟨λargs w=>Yh⟩
instance iDrvH3_3:ArrK Tryz.prog 222 65 5:=⟨Tryz.underlying222⟩
def xY(l:List UInt8)(j:Nat):Value:=if j<65-l.length then .int .u8 0 else .int .u8 ((l.getD (j-(65-l.length)) 0).toNat:Nat)
variable{l:List UInt8}
theorem NT(d:UInt8)(h:l.length<65):∀j,j<65->eQ (xY l) (64-l.length) (.int .u8 (d.toNat:Nat)) j=xY (d::l) j:=λj hj=>by
 unfold eQ xY;rw[List.length_cons];by_cases e:j=64-l.length
 .rw[if_pos e,if_neg Yo,show j-(65-(l.length+1))=0 by omega];rfl
 .rw[if_neg e];by_cases c:j<64-l.length
  .rw[if_pos Yo,if_pos Yo]
  .rw[if_neg Yo,if_neg Yo,show j-(65-(l.length+1))=(j-(65-l.length))+1 by omega];rfl
variable{k:Nat}
theorem aHy(h:l.length<=65)(hk:k<l.length):xY l (65-l.length+k)=.int .u8 (l[k].toNat:Nat):=by
 unfold xY;rw[if_neg Yo,show 65-l.length+k-(65-l.length)=k by omega,List.getD_eq_getElem?_getD,List.getElem?_eq_getElem hk];rfl
def LH:List UInt8:=[48,49,50,51,52,53,54,55,56,57,97,98,99,100,101,102,103,104,105,106,107,108,109,110,111,112,113,114,115,116,117,118,119,120,121,122]
section
variable {f:Operand->Value} {o:Oper}
theorem VB(x y:Operand)(ho:o.op=.index 9 x y)(hx:f x=.string ⟨LH.toArray⟩)(hy:f y=.int .u64 (k:Int))(hk:k<16)(w:World):(execOp f o).run Tryz.prog w=.ok (.value (.int .u8 ((oL k).toNat:Nat))) w:=by
 have h36:k<LH.length:=by show k<36;omega
 have e:LH[k]=oL k:=by
  have:=aHx hk LH rfl;rw[List.getElem?_eq_getElem h36] at this;exact Option.some.inj this
 rw[aER x y ho hx hy h36 w,e]
theorem aBC(x y:Operand)(ho:o.op=.slice 222 x (some y) none none){z:Int}(hx:f x=.pointer (some ⟨b,0,none⟩))(hy:f y=.int .i64 z)(hz:z=(i:Int))(hi:i<65)(w:World):(execOp f o).run Tryz.prog w=.ok (.value (.slice (some ⟨b,i,none⟩) (65-i) (65-i))) w:=by
 subst hz;have hi2:(i:Int)<=65:=Yo;have hne:¬65=i:=Yo;unfold execOp;rw[ho];simp only[Option.map_some,Option.map_none];rw[hx,hy];go_simp
theorem aIH(x:Operand)(ho:o.op=.convert 65 9 x){c:Nat}(hx:f x=.slice (some ⟨b,i,none⟩) l.length c)(hr:∀k (hk:k<l.length),w.cell? ⟨b,i+k,none⟩=some (.int .u8 (l[k].toNat:Nat))):(execOp f o).run Tryz.prog w=.ok (.value (tV l)) w:=by
 have e:=run_convert_bytes_back w 65 9 5 ⟨b,i,none⟩ c l Tryz.underlying65 Tryz.underlying5 Tryz.underlying9 (λk hk=>by rw[add_at];exact hr k hk);unfold execOp;rw[ho];dsimp only;rw[hx];go_simp
theorem PT(x:Operand)(ho:o.op=.convert 3 86 x)(hx:f x=.int .i64 16)(w:World):(execOp f o).run Tryz.prog w=.ok (.value (.int .u64 16)) w:=by
 unfold execOp;rw[ho];dsimp only;rw[hx]
 kernel_rfl
theorem aEO(x:Operand)(ho:o.op=.convert 3 86 x)(hx:f x=.int .i64 4)(w:World):(execOp f o).run Tryz.prog w=.ok (.value (.int .u64 4)) w:=by
 unfold execOp;rw[ho];dsimp only;rw[hx]
 kernel_rfl
theorem aEP(x:Operand)(ho:o.op=.convert 3 83 x)(hx:f x=.int .i64 16)(w:World):(execOp f o).run Tryz.prog w=.ok (.value (.int .u64 16)) w:=by
 unfold execOp;rw[ho];dsimp only;rw[hx]
 kernel_rfl
theorem aEQ(x y:Operand)(ho:o.op=.binOp .sub 86 x y 86)(hx:f x=.int .u64 16)(hy:f y=.int .u64 1)(w:World):(execOp f o).run Tryz.prog w=.ok (.value (.int .u64 15)) w:=by
 unfold execOp;rw[ho];dsimp only;rw[hx,hy]
 kernel_rfl
end
variable{Q:Exit->Act->World->Prop}
theorem NZ{P:Program}{J:Act->World->Prop}{ops:Array Oper}{a:Act}{id:Nat}(h:J a w):LstI P ops (Exit.inBlock id (Exit.then J Q)) [] a w:=⟨wpList_nil h⟩
theorem SC(n:Nat)(hn:n<18446744073709551616)(w:World)(hT:w.cell? ⟨5,15,none⟩=some (.int .u8 4)):Calls Tryz.prog 118 #[.slice none 0 0,.int .u64 (n:Int),.int .i64 16,.bool false,.bool false] w λe w'=>e=.returned (.tuple #[.slice none 0 0,tV (kU n)])/\Below w.heap.size w w':=by
 refine bB Tryz.func118 rfl 102 rfl Yd (λA hs hd hb=>?_);have b0:A.eval (.tmp 0)=.slice none 0 0:=hb 0 _ rfl;have b1:A.eval (.tmp 1)=.int .u64 (n:Int):=hb 1 _ rfl;have b2:A.eval (.tmp 2)=.int .i64 16:=hb 2 _ rfl;have b3:A.eval (.tmp 3)=.bool false:=hb 3 _ rfl;have b4:A.eval (.tmp 4)=.bool false:=hb 4 _ rfl;clear hb;have H:=Cx.start w;refine aD (aG ?_);iterate 2 refine qa ?_
 refine aC<|aH<|aD<|qa ?_;refine qg (iC (b:=false) _ _ rfl Qv Qv Yc _) ?_;iterate 2 refine qa ?_
 refine qg (bT (b:=false) _ _ rfl Qv Qv Yc _) ?_;refine qg (aZ _ _ _ rfl Qv Qv _) ?_;iterate 2 refine qa ?_
 refine qg (fV (b:=false) _ _ rfl Qv Qv Yc _) ?_;refine qg (aZ _ _ _ rfl Qv Qv _) ?_;refine aC<|aQ Qv ?_;refine aS<|aD<|kR H ?_;clear H;intro w1 H z1;replace H:Cx w w1 [bE 222 w.heap.size 65 65 (xY [])]:=H.wk (λm=>Vh.congr m (λj hj=>by unfold xY;rw[if_pos (by simpa using hj)])) (λ_ h=>h);refine aC<|aD<|qa ?_;refine aC<|aH<|aD<|qa ?_;refine aC<|aQ Qv ?_;refine aS<|aH<|aD<|qa ?_;refine kX (SK w1) ?_;rintro e w2 ⟨rfl,k2⟩;replace H:=H.call k2;refine⟨_,rfl,?_⟩;refine aC<|aT Qv ?_;refine aD<|qa ?_;refine qg (PT _ rfl Qv _) ?_;refine kX (aLS w2 (aU hT H.bel)) ?_;rintro e w3 ⟨rfl,k3⟩;replace H:=H.call k3;refine⟨_,rfl,?_⟩;refine qg (aEO _ rfl Qv _) ?_;refine qa ?_;refine aC<|aD<|qa ?_;refine qg (aEP _ rfl Qv _) ?_;refine qa ?_;refine aC<|aD<|qa ?_;refine qg (PT _ rfl Qv _) ?_;refine qg (aEQ _ _ rfl Qv Qv _) ?_;refine qa ?_;refine aC<|aH<|aM ?_;have hlen:=AX 15 n (by rw[show (16:Nat)^(15+1)=18446744073709551616 by decide];exact hn);refine cO (λr A W=>∃(u:Nat) (l:List UInt8),u<=r/\u<18446744073709551616/\kU n=kU u++l/\A.tmps.size=102/\A.defers=[]/\A.eval (.tmp 1)=.int .u64 (u:Int)/\A.eval (.tmp 3)=.bool false/\A.eval (.tmp 4)=.bool false/\A.eval (.tmp 10)=.slice none 0 0/\A.eval (.tmp 12)=.pointer (some ⟨w.heap.size,0,none⟩)/\A.eval (.tmp 13)=.int .i64 (65-(l.length:Int))/\A.eval (.tmp 14)=.int .u64 4/\A.eval (.tmp 15)=.int .u64 16/\A.eval (.tmp 16)=.int .u64 15/\Cx w W [bE 222 w.heap.size 65 65 (xY l)]) n
  ⟨n,[],Xr _,hn,(List.append_nil _).symm,YA,YB,Qv,Qv,Qv,Qv,Qv,Qv,Qv,Qv,Qv,H⟩ (λr B W hI=>?_)
 clear b0 b1 b2 b3 b4 hs hd H;obtain⟨u,l,hu,hu2,eL,hs,hd,b1,b3,b4,b10,b12,b13,b14,b15,b16,H⟩:=hI;have hne:1<=(kU u).length:=by
  rw[kU];split
  .exact Xr _
  .rw[List.length_append];show 1<=_+1;omega
 have hll:l.length<=15:=by
  have:=congrArg List.length eL;rw[List.length_append] at this;omega
 refine aH<|aD (aG ?_);iterate 2 refine qa ?_
 refine qg (XL _ _ rfl Qv Qv rfl _) ?_;refine aC<|iB (λhc=>?_) (λhc=>?_)
 .have h16:16<=u:=by have:=Xu hc;omega
  refine aS<|aM<|aD ?_;iterate 3 refine qa ?_
  refine aC<|aD ?_;iterate 3 refine qa ?_
  refine qg (XE _ _ rfl Qv Qv hu2 _) ?_;refine qg (VB _ _ rfl rfl Qv Yo _) ?_;refine qg (bQ (i:=64-l.length) _ _ _ _ rfl ArrK.out SizK.out Qv Qv Yo Yo _) ?_;refine tY H.a0 (q:=0+(64-l.length)*1) (u:=.int .u8 ((oL (u%16)).toNat:Nat)) (g':=xY (oL (u%16)::l)) (by rw[show 0+(64-l.length)*1=64-l.length by omega];exact NT _ Yo) ?_;clear H;intro w4 H z4;refine aC<|aJ ?_;iterate 2 refine qa ?_
  refine qg (aBY _ _ rfl Qv Qv _) ?_;refine qa ?_;exact NZ ⟨u/16,Yo,u/16,oL (u%16)::l,Xr _,Yo,by rw[eL,P7 h16,List.append_assoc];rfl,YA,YB,Qv,Qv,Qv,Qv,Qv,Eq.trans Qv (by rw[List.length_cons];congr 1;omega),Qv,Qv,Qv,H⟩
 .have h16:u<16:=by have:=Xg hc;omega
  refine bY (eY ?_);refine aD ?_;iterate 3 refine qa ?_
  refine aC<|aJ ?_;iterate 2 refine qa ?_
  refine qg (VB _ _ rfl rfl Qv h16 _) ?_;refine qg (bQ (i:=64-l.length) _ _ _ _ rfl ArrK.out SizK.out Qv Qv Yo Yo _) ?_;refine tY H.a0 (q:=0+(64-l.length)*1) (u:=.int .u8 ((oL u).toNat:Nat)) (g':=xY (oL u::l)) (by rw[show 0+(64-l.length)*1=64-l.length by omega];exact NT _ Yo) ?_;clear H;intro w4 H z4;have eL2:kU n=oL u::l:=by rw[eL,uJ h16];rfl
  refine aC<|aH<|aD<|qa ?_;refine aC<|aQ Qv ?_;refine aS<|aH<|aD<|qa ?_;refine aC<|aQ Qv ?_;refine aS<|aD<|qa ?_;refine qg (aBC (i:=64-l.length) _ _ rfl Qv Qv Yo Yo _) ?_;refine qg (aIH (l:=oL u::l) _ rfl (Eq.trans Qv (by rw[List.length_cons,show 65-(64-l.length)=l.length+1 by omega])) (λk hk=>by
   have:=H.v0.cell (i:=64-l.length+k) (by rw[List.length_cons] at hk;omega);rw[this, <-aHy (by rw[List.length_cons];omega) hk,List.length_cons,show 65-(l.length+1)=64-l.length by omega])) ?_
  refine qa ?_;refine aC ?_;rw[<-eL2];exact aN (aK YB (pF rfl Qv Qv) ⟨rfl,H.bel⟩)
section
variable {f:Operand->Value} {o:Oper}
variable{n:Nat}
theorem aIG(x:Operand)(ho:o.op=.convert 2 83 x)(hx:f x=.int .i64 (n:Int))(hn:n<9223372036854775808)(w:World):(execOp f o).run Tryz.prog w=.ok (.value (.int .u64 (n:Int))) w:=by
 unfold execOp;rw[ho];dsimp only;rw[hx];go_simp
 rw[IntKind.wrap_u64];omega
theorem aFc(x y:Operand)(ho:o.op=.binOp .lss 2 x y 2)(hx:f x=.int .i64 (n:Int))(hy:f y=.int .i64 0)(w:World):(execOp f o).run Tryz.prog w=.ok (.value (.bool false)) w:=Yjq
end
instance iDrvH5_1:EntK Tryz.prog 85:=⟨λargs w=>Yh⟩
instance iDrvH5_2:EntK Tryz.prog 145:=⟨λargs w=>Yh⟩
instance iDrvH5_3:EntK Tryz.prog 17:=⟨λargs w=>Yh⟩
theorem aDt(n:Nat)(hn:n<9223372036854775808)(w:World)(hT:w.cell? ⟨5,15,none⟩=some (.int .u8 4)):Calls Tryz.prog 85 #[.int .i64 (n:Int),.int .i64 16] w λe w'=>e=.returned (tV (kU n))/\Below w.heap.size w w':=by
 refine bB Tryz.func85 rfl 54 rfl Yd (λA hs hd hb=>?_);have b0:A.eval (.tmp 0)=.int .i64 (n:Int):=hb 0 _ rfl;have b1:A.eval (.tmp 1)=.int .i64 16:=hb 1 _ rfl;clear hb;refine aD (aG ?_);refine qa ?_;refine aC<|aH<|aD<|qa ?_;refine qg (bT (b:=false) _ _ rfl Qv Qv Yc _) ?_;refine aC<|aQ Qv ?_;refine aS<|aD<|qa ?_;refine qg (aIG _ rfl Qv hn _) ?_;iterate 2 refine qa ?_
 refine qg (aFc _ _ rfl Qv Qv _) ?_;refine bJ rfl Yw (λK hK=>BV _ _ _ _ _ _ _ _ rfl Qv Qv Qv Qv Qv (EntK.out _ _) (SC n Yo w hT) ?_);rintro e w1 ⟨rfl,k1⟩;refine⟨_,rfl,hK _ _ ?_⟩;clear hK K;iterate 5 refine qa ?_
 refine aC<|aD ?_;iterate 2 refine qa ?_
 refine aC ?_;exact aN (aK YB (bL rfl Qv) ⟨rfl,k1⟩)
theorem WJ(n:Nat)(hn:n<9223372036854775808)(w:World)(hT:w.cell? ⟨5,15,none⟩=some (.int .u8 4)):Calls Tryz.prog 145 #[.int .i64 (n:Int),.int .i64 16] w λe w'=>e=.returned (tV (kU n))/\Below w.heap.size w w':=by
 refine bB Tryz.func145 rfl 8 rfl Yd (λA hs hd hb=>?_);have b0:A.eval (.tmp 0)=.int .i64 (n:Int):=hb 0 _ rfl;have b1:A.eval (.tmp 1)=.int .i64 16:=hb 1 _ rfl;clear hb;refine aD (aG ?_);refine qa ?_;refine aC<|aD ?_;iterate 2 refine qa ?_
 refine gX (aDt n hn w hT) ?_;rintro e w1 ⟨rfl,k1⟩;refine⟨_,rfl,?_⟩;refine qa ?_;refine aC ?_;exact aN (aK YB (bL rfl Qv) ⟨rfl,k1⟩)
theorem uK (n : Int) (hn : R64 n) (w : World) (htab : Lib.TabIs Tryz.prog w "internal/strconv.uint64pow10" .u64 Lib.pow10Tab) :
  Calls Tryz.prog 17 #[.int .i64 n] w λe w'=>e=.returned (tV (itoa n))/\Below w.heap.size w w':=
 (Tryz.strconv_Itoa n hn.1 hn.2 w htab).mono (λe w' ⟨h1,k,os,h2⟩=>⟨h1,by rw[h2];exact Lib.below_grow w.heap.size w (Xr _) k os⟩)
theorem aHF(h:d<10):mZ (CS d)=true:=by rw[pW,wV h];omega
theorem IY(k:Nat):∀n,n<10^k->kN (jA k n)=n:=by
 induction k with
 |zero=>
  intro n h
  have:n=0:=by simpa using h
  subst this;rfl
 |succ k ih=>
  intro n h;rw[Nat.pow_succ] at h;rw[jA,L8,ih (n/10) Yo,wV Yo];omega
theorem BF(k:Nat):∀n,(jA k n).all mZ=true:=by
 induction k with
 |zero=>intro n;rfl
 |succ k ih=>
  intro n;rw[jA,List.all_append,ih,List.all_cons,aHF Yo];rfl
theorem rD(n:Nat):(decDigits n).all mZ=true:=by rw[<-JN];exact BF _ _
theorem aDf(n:Nat):kN (decDigits n)=n:=by rw[<-JN];exact IY _ _ (lt_pow_nDigits n)
theorem MR(n:Nat):decDigits n≠[]:=by
 intro e;have h:=decDigits_length n;rw[e] at h;have:=nDigits_pos n;simp at h;omega
theorem aDg(n:Nat):0<n->(decDigits n).head?≠some 48:=by
 induction n using Nat.strongRecOn with
 |_ n ih=>
  intro hn;by_cases h:n<10
  .rw[decDigits,dif_pos h];intro e;have e2:CS n=48:=Option.some.inj e;have:=(aDh h).1 e2;omega
  .rw[decDigits,dif_neg h];have e:((decDigits (n/10))++[UInt8.ofNat (48+n%10)]).head?=(decDigits (n/10)).head?:=by
    obtain⟨c,t,e⟩:=List.exists_cons_of_ne_nil (MR (n/10));rw[e];rfl
   rw[e];exact ih (n/10) Yo Yo
theorem NW(h:l.all mZ=true)(hn:l≠[]):lU l=true:=by
 unfold lU;rw[h]
 cases l with
 |nil=>exact absurd rfl hn
 |cons _ _=>rfl
theorem ZP(n:Nat):wM (decDigits n)=true:=by
 unfold wM;rw[NW (rD n) (MR n),Bool.true_and];rcases Nat.eq_zero_or_pos n with h|h
 .subst h;rw[decDigits,dif_pos Yc];rfl
 .have:=aDg n h;have e:((decDigits n).head? !=some 48)=true:=by simp[this]
  rw[e,Bool.or_true]
theorem UV{c:UInt8}(h:mZ c=true):c≠46/\c≠45:=by
 rw[pW] at h;constructor
 .rintro rfl;have e:(46:UInt8).toNat=46:=rfl;omega
 .rintro rfl;have e:(45:UInt8).toNat=45:=rfl;omega
theorem DF:∀l:List UInt8,(∀c∈l,c≠46)->Lib.index l [46]= -1
 |[],_=>rfl
 |c::l,h=>by
  unfold Lib.index;have h1:List.isPrefixOf [46] (c::l)=false:=by
   have:=h c (by simp);simp[List.isPrefixOf];exact λe=>this e.symm
  rw[h1,DF l (λd hd=>h d (by simp[hd]))];rfl
theorem JG(r:List UInt8):∀l:List UInt8,(∀c∈l,c≠46)->Lib.index (l++46::r) [46]=(l.length:Int)
 |[],_=>by
  show Lib.index (46::r) [46]=0
  unfold Lib.index;have h1:List.isPrefixOf [46] (46::r)=true:=by simp[List.isPrefixOf]
  rw[h1];rfl
 |c::l,h=>by
  show Lib.index (c::(l++46::r)) [46]=_
  unfold Lib.index;have h1:List.isPrefixOf [46] (c::(l++46::r))=false:=by
   have:=h c (by simp);simp[List.isPrefixOf];exact λe=>this e.symm
  rw[h1,JG r l (λd hd=>h d (by simp[hd]))];have h2:((l.length:Int)== -1)=false:=beq_eq_false_iff_ne.2 Yo;simp only[h2,Bool.false_eq_true,if_false];simp
theorem F9(h:l.all mZ=true):∀c∈l,c≠46:=λc hc=>(UV (List.all_eq_true.1 h c hc)).1
theorem aDd(h:l.all mZ=true):Lib.cut l [46]=(l,[],false):=by
 unfold Lib.cut;rw[DF l (F9 h)];rfl
theorem aHa{r:List UInt8}(h:l.all mZ=true):Lib.cut (l++46::r) [46]=(l,r,true):=by
 unfold Lib.cut;rw[JG r l (F9 h),if_pos Yo,Int.toNat_natCast]
 congr 1
 .simp
 .congr 1
  simp[List.drop_append]
theorem aAu{R:Nat}(hR:R<4294967296)(h:fRest R (i+1)=0)(neg:Bool):fracV (jA (i+1) (iR R (i+1))) neg=R:=by
 obtain⟨T,eT⟩:∃T,10^(i+1)=T:=⟨_,rfl⟩;have hT:0<T:=by rw[<-eT];exact Nat.pow_pos Yc
 have e1:iR R (i+1)*4294967296=R*T:=by
  unfold iR;unfold fRest at h;rw[eT] at h ⊢;omega
 have hF:iR R (i+1)<10^(i+1):=by
  unfold iR;rw[Nat.div_lt_iff_lt_mul Yc,Nat.mul_comm (10^(i+1))];exact Nat.mul_lt_mul_of_pos_right hR (Nat.pow_pos Yc)
 unfold fracV;rw[jW,IY _ _ hF,eT,show (2:Nat)^32=4294967296 by decide,show (2:Nat)^33=4294967296*2 by decide, <-Nat.mul_assoc,e1];have e2:R*T/T=R:=Nat.mul_div_cancel _ hT;have e3:R*T*2/T=2*R:=by rw[Nat.mul_right_comm,Nat.mul_div_cancel _ hT,Nat.mul_comm]
 rw[e2,e3];split<;>omega
theorem aCn(a:Int)(ha:R64 a)(l:List UInt8)(h:TextOf (absZ a).toNat l):iO (iM a++l)=a/\jT (iM a++l)=0:=by
 have hab:=nV ha;obtain⟨m,em⟩:∃m:Nat,absZ a=m:=⟨(absZ a).toNat,Yo⟩;rw[show (absZ a).toNat=m by rw[em];rfl] at h;rw[em] at hab;obtain⟨W,eW⟩:∃W:Nat,m/4294967296=W:=⟨_,rfl⟩;obtain⟨R,eR⟩:∃R:Nat,m%4294967296=R:=⟨_,rfl⟩;unfold TextOf at h;rw[eW,eR] at h;have hW:W<=2147483648:=Yo;have hR:R<4294967296:=Yo;have hWd:(decDigits W).length<=10:=by rw[decDigits_length];exact uL Yc Yo
 obtain⟨fr,pt,hcut,hfd,hfv,hlen,hfirst,hpf⟩:∃(fr:List UInt8) (pt:Bool),Lib.cut l [46]=(decDigits W,fr,pt)/\fr.all mZ=true/\(∀neg,fracV fr neg=R)/\l.length<=50/\(∃c t,l=c::t/\mZ c=true)/\(pt=true->fr≠[]):=by
  have hfst:∀t:List UInt8,∃c t',decDigits W++t=c::t'/\mZ c=true:=by
   intro t;obtain⟨c,t',e⟩:=List.exists_cons_of_ne_nil (MR W);refine⟨c,t'++t,by rw[e];rfl,?_⟩;have:=rD W;rw[e,List.all_cons,Bool.and_eq_true] at this;exact this.1
  rcases h with ⟨h1,rfl⟩|⟨i,hi,h1,h2,rfl⟩
  .refine⟨[],false,aDd (rD W),rfl,λneg=>?_,Yo,?_,λh=>by cases h⟩
   .rw[h1];unfold fracV;show 0*2^32/10^0+_=0
    cases neg<;>decide
   .have:=hfst [];rw[List.append_nil] at this;exact this
  .refine⟨_,true,aHa (rD W),BF _ _,λneg=>aAu hR h2 neg,?_,hfst _,λ_ e=>?_⟩
   .rw[List.length_append,List.length_cons,jW];omega
   .have:=jW (i+1) (iR R (i+1));rw[e] at this
    cases this
 obtain⟨c,t,el,hc⟩:=hfirst;have hneg:DR (iM a++l)=decide (a<0)/\Lib.trimPrefix (iM a++l) [45]=l:=by
  unfold DR Lib.trimPrefix Lib.hasPrefix iM;by_cases hn:a<0
  .rw[if_pos hn,Xt hn];have e1:List.isPrefixOf [45] ([45]++l)=true:=by simp[List.isPrefixOf]
   rw[e1];exact⟨rfl,rfl⟩
  .rw[if_neg hn,Xf hn];have e1:List.isPrefixOf [45] ([]++l)=false:=by
    rw[el];simp[List.isPrefixOf];exact λe=>(UV hc).2 e.symm
   rw[e1];exact⟨rfl,rfl⟩
 have hparts:oF (iM a++l)=(decDigits W,fr,pt):=by unfold oF;rw[hneg.2,hcut]
 have hform:qK (iM a++l)=true:=by
  unfold qK;rw[hparts];show (wM (decDigits W)&&(!pt||lU fr))=true
  rw[ZP,Bool.true_and]
  cases pt
  .rfl
  .rw[NW hfd (hpf rfl)];rfl
 have hM:iN (iM a++l)=a:=by
  unfold iN;rw[hparts,hneg.1];show iI (decide (a<0)) ((wholeV (decDigits W)*4294967296+fracV fr (decide (a<0)):Nat):Int)=a
  have ew:wholeV (decDigits W)=W:=by unfold wholeV;rw[aDf,if_pos Yo]
  rw[ew,hfv];have e2:W*4294967296+R=m:=Yo;rw[e2, <-em];unfold iI absZ;by_cases hn:a<0
  .rw[Xt hn,if_pos rfl,if_pos hn];omega
  .rw[Xf hn,if_neg Yc,if_neg hn]
 have hbent:fP a=false:=by
  unfold R64 at ha;unfold fP;rw[Xf Yo,Xf Yo];rfl
 have hcl:dO a=a:=by
  unfold R64 at ha;unfold dO;rw[if_neg Yo,if_neg Yo]
 have hl60:¬60<(iM a++l).length:=by
  rw[List.length_append];unfold iM;split
  .simp;omega
  .simp;omega
 unfold iO jT;rw[if_neg hl60,if_neg hl60,hform,hM,hbent,hcl];exact⟨rfl,rfl⟩
theorem aJd(m:Nat):∃l,TextOf m l:=by
 by_cases h0:m%4294967296=0
 .exact⟨_,Or.inl ⟨h0,rfl⟩⟩
 .have hz:fRest (m%4294967296) 32=0:=by
   unfold fRest;rw[show (10:Nat)^32=23283064365386962890625*4294967296 by decide, <-Nat.mul_assoc];exact Nat.mul_mod_left _ _
  have h1:fRest (m%4294967296) 0≠0:=by
   unfold fRest;rw[Nat.pow_zero,Nat.mul_one,Nat.mod_mod];exact h0
  have:∀k,k<=32->fRest (m%4294967296) k=0->∃i,i<k/\fRest (m%4294967296) i≠0/\fRest (m%4294967296) (i+1)=0:=by
   intro k
   induction k with
   |zero=>intro _ h;exact absurd h h1
   |succ k ih=>
    intro hk h;by_cases c:fRest (m%4294967296) k=0
    .obtain⟨i,hi,h2⟩:=ih Yo c;exact⟨i,Yo,h2⟩
    .exact⟨k,Yo,c,h⟩
  obtain⟨i,hi,h2,h3⟩:=this 32 (Xr _) hz;exact⟨_,Or.inr ⟨i,Yo,h2,h3,rfl⟩⟩
theorem IK(a:Int):∃l,TextOf (absZ a).toNat l/\gI a=iM a++l:=by
 obtain⟨l,h⟩:=aJd (absZ a).toNat;exact⟨l,h,(VK h).symm⟩
variable{a:Int}
theorem KC(ha:R64 a):iO (gI a)=a/\jT (gI a)=0:=by
 obtain⟨l,h,e⟩:=IK a;rw[e];exact aCn a ha l h
theorem UK{b:UInt8}(h:mZ b=true):b≠10/\b≠32:=by
 rw[pW] at h;constructor<;>(intro e;subst e;revert h;decide)
theorem nI:∀b,b∈gI a->b≠10/\b≠32:=λb hb=>by
 obtain⟨l,h,e⟩:=IK a;rw[e] at hb;have dig:∀{l:List UInt8},l.all mZ=true->∀b,b∈l->b≠10/\b≠32:=λh b hb=>UK (List.all_eq_true.1 h b hb)
 rcases List.mem_append.1 hb with hb|hb
 .unfold iM at hb;split at hb
  .rw[List.mem_singleton.1 hb];decide
  .cases hb
 .rcases h with ⟨_,rfl⟩|⟨i,_,_,_,rfl⟩
  .exact dig (rD _) b hb
  .rcases List.mem_append.1 hb with hb|hb
   .exact dig (rD _) b hb
   .rcases List.mem_cons.1 hb with rfl|hb
    .decide
    .exact dig (BF _ _) b hb
theorem dI(ha:R64 a):(gI a).length<=44:=by
 obtain⟨l,h,e⟩:=IK a;have hab:=nV ha;rw[e,List.length_append];have h1:(iM a).length<=1:=by unfold iM;split<;>decide
 have hW:(absZ a).toNat/4294967296<=2147483648:=Yo;have hWd:(decDigits ((absZ a).toNat/4294967296)).length<=10:=by rw[decDigits_length];exact uL Yc Yo
 rcases h with ⟨_,rfl⟩|⟨i,hi,_,_,rfl⟩
 .omega
 .rw[List.length_append,List.length_cons,jW];omega
section
variable {ops:Array Oper} {Q:Exit->Act->World->Prop} {A:Act} {L:List (Nat×Value)} {w0 w:World} {rest:List Oper} {o:Oper} {d:Nat} {l:List It} {x0 x1 x2 x3:Operand} {t0 t1 t2 t3:List UInt8}
theorem aBe(H:Cx w0 w l)(h:∀w',Cx w0 w' (bE 9 w.heap.size 1 1 (qG [t0])::l)->LstI Tryz.prog ops Q rest (aL A ((d,.slice (some ⟨w.heap.size,0,none⟩) 1 1)::L)) w')(ho:o.op=.buildSlice 59 1 #[(0,x0)]:=by rfl)(h0:(aL A L).eval x0=tV t0:=by exact Qv)(hd:o.dst=some d:=by rfl)(hw:Region.wanted o (yielded ops (aL A L).tmps)=true:=by exact cB rfl):LstI Tryz.prog ops Q (o::rest) (aL A L) w:=
 bJ hd hw (λ_ hK=>aGa ho h0 (λw' m k _=>hK _ _ (h w' (H.add k _ m (λj (e:j=_)=>Nat.le_of_eq e.symm)))))
theorem aBf(H:Cx w0 w l)(h:∀w',Cx w0 w' (bE 9 w.heap.size 2 2 (qG [t0,t1])::l)->LstI Tryz.prog ops Q rest (aL A ((d,.slice (some ⟨w.heap.size,0,none⟩) 2 2)::L)) w')(ho:o.op=.buildSlice 59 2 #[(0,x0),(1,x1)]:=by rfl)(h0:(aL A L).eval x0=tV t0:=by exact Qv)(h1:(aL A L).eval x1=tV t1:=by exact Qv)(hd:o.dst=some d:=by rfl)(hw:Region.wanted o (yielded ops (aL A L).tmps)=true:=by exact cB rfl):LstI Tryz.prog ops Q (o::rest) (aL A L) w:=
 bJ hd hw (λ_ hK=>aGb ho h0 h1 (λw' m k _=>hK _ _ (h w' (H.add k _ m (λj (e:j=_)=>Nat.le_of_eq e.symm)))))
theorem aLB(H:Cx w0 w l)(h:∀w',Cx w0 w' (bE 9 w.heap.size 3 3 (qG [t0,t1,t2])::l)->LstI Tryz.prog ops Q rest (aL A ((d,.slice (some ⟨w.heap.size,0,none⟩) 3 3)::L)) w')(ho:o.op=.buildSlice 59 3 #[(0,x0),(1,x1),(2,x2)]:=by rfl)(h0:(aL A L).eval x0=tV t0:=by exact Qv)(h1:(aL A L).eval x1=tV t1:=by exact Qv)(h2:(aL A L).eval x2=tV t2:=by exact Qv)(hd:o.dst=some d:=by rfl)(hw:Region.wanted o (yielded ops (aL A L).tmps)=true:=by exact cB rfl):LstI Tryz.prog ops Q (o::rest) (aL A L) w:=
 bJ hd hw (λ_ hK=>aGc ho h0 h1 h2 (λw' m k _=>hK _ _ (h w' (H.add k _ m (λj (e:j=_)=>Nat.le_of_eq e.symm)))))
end
instance iDrvRp_1:EntK Tryz.prog 83:=⟨λargs w=>Yh⟩
instance iDrvRp_2:EntK Tryz.prog 7:=⟨λargs w=>Yh⟩
structure TabOK (w:World):Prop where
 pow : Lib.TabIs Tryz.prog w "internal/strconv.uint64pow10" .u64 Lib.pow10Tab
 bru:w.cell? ⟨5,15,none⟩=some (.int .u8 4)
theorem TabOK.bel{w':World}(h:TabOK w)(k:Below w.heap.size w w'):TabOK w':=⟨Lib.tabBelow_of_tabIs h.pow _ k,aU h.bru k⟩
theorem fK(a:Int)(ha:R64 a)(w:World)(hT:TabOK w):Calls Tryz.prog 7 #[.int .i64 a] w λe w'=>e=.returned (tV (gI a))/\Below w.heap.size w w':=
 (aFE a ha w hT.pow).mono (λe w' ⟨l,h1,h2,h3⟩=>⟨by rw[h2,VK h1],h3⟩)
theorem nL{n:Int}(h:R64 n):(itoa n).length<=20:=by
 unfold R64 at h;have:∀m:Nat,m<=9223372036854775808->(decDigits m).length<=19:=λm hm=>by rw[decDigits_length];exact uL Yc Yo
 unfold itoa;split
 .have:=this n.natAbs Yo;rw[List.length_cons];omega
 .have:=this n.toNat Yo;omega
variable{n:Nd}
theorem FL(h:NdOK n):∀a,(wQ n a).length<=90*a
 |0=>Xr _
 |a+1=>by
  have h1:=dI (h.us a);have h2:=dI (h.ax a).X;have ih:=FL h a;unfold wQ;simp only[List.length_append,List.length_cons,List.length_nil];omega
theorem GU(I:Nat->Bool):∀i,i<=4->(tH I i).length<=24*i
 |0,_=>Xr _
 |i+1,hi=>by
  have ih:=GU I i Yo;have h1:=nL (n:=(i:Nat)) (by unfold R64;omega);unfold tH;rw[List.length_append];split
  .show _+0<=_
   omega
  .simp only[List.length_append,List.length_cons,List.length_nil];omega
theorem UI{u:Int}(h:R64 u):(kU u.toNat).length<=16:=AX 15 _ (by unfold R64 at h;rw[show (16:Nat)^(15+1)=18446744073709551616 by decide];omega)
theorem aID(h:NdOK n):(rpT n).length<=600:=by
 have h1:=nL h.id;have h2:=nL h.fr;have h3:=FL h 3;have h4:=GU n.rl.I 4 (Xr _);have h5:=UI h.dg;unfold rpT;simp only[List.length_append,List.length_cons,List.length_nil];split<;>simp only[List.length_cons,List.length_nil]<;>omega
theorem aLH:∀j,j<3->gH n (0+2+j)=.int .i64 (n.us j):=λj hj=>by
 match j,hj with
 |0,_=>rfl
 |1,_=>rfl
 |2,_=>rfl
 |k+3,h=>exact absurd h Yo
theorem aLG{a:Nat}(h:a<3):gH n (0+5+a*1)=.int .i64 (n.ax a).X:=by
 match a,h with
 |0,_=>rfl
 |1,_=>rfl
 |2,_=>rfl
 |k+3,h=>exact absurd h Yo
theorem aLF:∀j,j<4->gH n (0+10+j)=.bool (n.rl.I j):=λj hj=>by
 match j,hj with
 |0,_=>rfl
 |1,_=>rfl
 |2,_=>rfl
 |3,_=>rfl
 |k+4,h=>exact absurd h Yo
variable{p:Value}
theorem PL{h:Nat->Value}{L:List It}(l:List UInt8)(n:Nd)(hn:NdOK n)(hg:0<=n.dg)(H:Cx w0 w (bE 69 b 313 313 (gD h p v)::sP w0.heap.size v l::L))(hp:I8 b p)(hT:TabOK w0)(hl:l.length<=140737488350000):Calls Tryz.prog 83 #[.pointer (some ⟨b,0,none⟩),aP (gH n) 0 14] w λe w'=>∃p' v',e=.returned (.tuple #[])/\I8 b p'/\Cx w0 w' (bE 69 b 313 313 (gD h p' v')::sP w0.heap.size v' (l++rpT n)::L):=by
 have l1:=nL hn.id;have l2:=nL hn.fr;have l5:=UI hn.dg;refine bB Tryz.func83 rfl 63 rfl Yd (λA hs hd hb=>?_);have b0:A.eval (.tmp 0)=.pointer (some ⟨b,0,none⟩):=hb 0 _ rfl;have b1:A.eval (.tmp 1)=aP (gH n) 0 14:=hb 1 _ rfl;clear hb;refine aD (aG ?_);refine lJ H ?_;clear H;intro w1 H z1;replace H:=H.b2;refine aC ?_;replace H:=H.drew;have hS:Its [bE 57 w.heap.size 14 14 (gH n)] w1.drew:=Its.cons H.o2 (Its.nil _);refine aH<|eU (S:=Its [bE 57 w.heap.size 14 14 (gH n)]) (.mv 0 (.mv 1 (.rd 2 (.mv 4 (.rd 5 (.go 3 (.go 6 (.go 7 (.go 8 .fin))))))))) [] Yl Yl ?_;iterate 2 refine qj ?_
 refine Yr rfl hS (λ_ H=>aR (v:=.int .i64 n.id) _ _ rfl OneK.out Qv H.v0 Yo rfl) ?_;refine qj ?_;refine Yr rfl hS (λ_ H=>aR (v:=.int .i64 n.fr) _ _ rfl OneK.out Qv H.v0 Yo rfl) ?_;refine bR rfl rfl Yw (λK hK=>aX _ _ _ _ rfl Qv (EntK.out _ _) (uK n.id hn.id _ (hT.bel H.bel).pow) ?_);rintro e w2 ⟨rfl,k2⟩;replace H:=H.call k2;refine⟨_,rfl,hK _ _ (λ_ _=>Its.cons H.o2 (Its.nil _)) ?_⟩;clear hK K;refine bR rfl rfl Yw (λK hK=>aX _ _ _ _ rfl Qv (EntK.out _ _) (uK n.fr hn.fr _ (hT.bel H.bel).pow) ?_);rintro e w3 ⟨rfl,k3⟩;replace H:=H.call k3;refine⟨_,rfl,hK _ _ (λ_ _=>Its.cons H.o2 (Its.nil _)) ?_⟩;clear hK K;refine bR rfl rfl Yw (λK hK=>QT (t0:=[110,111,100,101,32]) (t1:=itoa n.id) (t2:=[32,102,114,97,109,101,32]) (t3:=itoa n.fr) rfl rfl Qv rfl Qv ?_);intro w4 m4 k4 z4;replace H:=(H.add k4 (bE _ _ _ _ _) m4 (λj (e:j=_)=>Nat.le_of_eq e.symm)).b2;refine hK _ _ (λ_ _=>Its.cons H.o3 (Its.nil _)) ?_;clear hK K;refine bR rfl rfl Yw (λK hK=>dL _ _ _ _ _ rfl Qv Qv (EntK.out _ _) (mX l [[110,111,100,101,32],itoa n.id,[32,102,114,97,109,101,32],itoa n.fr] 4 H hp (by simp only[List.flatten_cons,List.flatten_nil,List.length_append,List.length_cons,List.length_nil];omega) (show 4<=1000 by omega)) ?_);rintro e w5 ⟨p1,v1,rfl,hp1,H1⟩;clear H;refine⟨_,rfl,hK _ _ (λ_ _=>Its.cons H1.o2 (Its.nil _)) ?_⟩;clear hK K;refine fI ?_;obtain⟨m1,em1⟩:∃m,m=l++[[110,111,100,101,32],itoa n.id,[32,102,114,97,109,101,32],itoa n.fr].flatten:=⟨_,rfl⟩;rw[<-em1] at H1;have lm1:m1.length<=l.length+52:=by rw[em1];simp only[List.flatten_cons,List.flatten_nil,List.length_append,List.length_cons,List.length_nil];omega
 have H:=H1;clear H1;refine aH<|aD<|qa ?_;refine qg (cZ _ _ rfl ManyK.out Qv H.v2 Yo aLH) ?_;refine qa ?_;refine aC<|aM ?_;refine cO (λr A W=>∃(k:Nat) (p' v':Value),k<=3/\3-k<=r/\A.tmps.size=63/\A.defers=[]/\A.eval (.tmp 0)=.pointer (some ⟨b,0,none⟩)/\A.eval (.tmp 3)=.pointer (some ⟨w.heap.size,0,none⟩)/\A.eval (.tmp 18)=aP (λj=>.int .i64 (n.us j)) 0 3/\A.eval (.tmp 19)=.int .i64 (k:Nat)/\I8 b p'/\Cx w0 W (bE 69 b 313 313 (gD h p' v')::sP w0.heap.size v' (m1++wQ n k)::bE 57 w.heap.size 14 14 (gH n)::L)) 3
  ⟨0,p1,v1,Xz _,Yo,YA,YB,Qv,Qv,Qv,Qv,hp1,by rw[show wQ n 0=[] from rfl,List.append_nil];exact H⟩ (λr B W hI=>?_)
 clear b0 b1 hs hd H hp1 hp hS;obtain⟨k,p2,v2,hk,hkr,hs,hd,b0,b3,b18,b19,hp,H⟩:=hI;have lk:=FL hn k;refine aD (aG ?_);refine qa ?_;refine aC<|aH<|iB (λhc=>?_) (λhc=>?_)
 .have hin:k<3:=by have:=Xu hc;omega
  refine aS<|aH (aM ?_);refine aD<|qa ?_;refine qg (jP _ _ _ _ rfl ArrK.out OneK.out Qv Qv rfl hin _) ?_;iterate 2 refine qa ?_
  refine aC ?_;replace H:=H.drew;have hS:Its [bE 57 w.heap.size 14 14 (gH n)] W.drew:=Its.cons H.o2 (Its.nil _);refine eU (S:=Its [bE 57 w.heap.size 14 14 (gH n)]) (.mv 0 (.mv 1 (.mv 3 (.mv 4 (.mv 5 (.rd 6 (.go 2 (.go 7 (.go 8 (.go 9 .fin)))))))))) [] Yl Yl ?_;iterate 4 refine qj ?_
  refine bS rfl rfl (λ_ _ _ h=>h) Yw (λw=>bQ (i:=k) _ _ _ _ rfl ArrK.out SizK.out Qv Qv rfl hin w) ?_;refine Yr rfl hS (λ_ H=>aR (v:=.int .i64 (n.ax k).X) _ _ rfl OneK.out Qv H.v0 Yo (aLG hin)) ?_;refine bR rfl rfl Yw (λK hK=>aX _ _ _ _ rfl Qv (EntK.out _ _) (fK (n.us k) (hn.us k) _ (hT.bel H.bel)) ?_);rintro e w6 ⟨rfl,k6⟩;replace H:=H.call k6;refine⟨_,rfl,hK _ _ (λ_ _=>Its.cons H.o2 (Its.nil _)) ?_⟩;clear hK K;refine bR rfl rfl Yw (λK hK=>aX _ _ _ _ rfl Qv (EntK.out _ _) (fK (n.ax k).X (hn.ax k).X _ (hT.bel H.bel)) ?_);rintro e w7 ⟨rfl,k7⟩;replace H:=H.call k7;refine⟨_,rfl,hK _ _ (λ_ _=>Its.cons H.o2 (Its.nil _)) ?_⟩;clear hK K;refine bR rfl rfl Yw (λK hK=>QT (t0:=[32]) (t1:=gI (n.us k)) (t2:=[62]) (t3:=gI (n.ax k).X) rfl rfl Qv rfl Qv ?_);intro w8 m8 k8 z8;replace H:=(H.add k8 (bE _ _ _ _ _) m8 (λj (e:j=_)=>Nat.le_of_eq e.symm)).b2;refine hK _ _ (λ_ _=>Its.cons H.o3 (Its.nil _)) ?_;clear hK K;have t1:=dI (hn.us k);have t2:=dI (hn.ax k).X;refine bR rfl rfl Yw (λK hK=>dL _ _ _ _ _ rfl Qv Qv (EntK.out _ _) (mX (m1++wQ n k) [[32],gI (n.us k),[62],gI (n.ax k).X] 4 H hp (by simp only[List.flatten_cons,List.flatten_nil,List.length_append,List.length_cons,List.length_nil];omega) (show 4<=1000 by omega)) ?_);rintro e w9 ⟨p3,v3,rfl,hp3,H1⟩;clear H;refine⟨_,rfl,hK _ _ (λ_ _=>Its.cons H1.o2 (Its.nil _)) ?_⟩;clear hK K;refine vN<|aJ ?_;repeat refine qa ?_
  exact bD ⟨3-(k+1),Yo,k+1,p3,v3,Yo,Yo,YA,YB,Qv,Qv,Qv,Eq.trans Qv YC,hp3,by
   rw[show wQ n (k+1)=wQ n k++([32]++gI (n.us k)++[62]++gI (n.ax k).X) from rfl, <-List.append_assoc];rw[show [[32],gI (n.us k),[62],gI (n.ax k).X].flatten=[32]++gI (n.us k)++[62]++gI (n.ax k).X by simp] at H1;exact H1⟩
 obtain rfl:k=3:=by have:=Xg hc;omega
 obtain⟨m2,em2⟩:∃m,m=m1++wQ n 3:=⟨_,rfl⟩;have lm2:m2.length<=m1.length+270:=by rw[em2,List.length_append];omega
 rw[<-em2] at H;refine bY (eY ?_);refine aD ?_;iterate 2 refine qa ?_
 refine qg (aR (v:=.int .i64 ((n.dg.toNat:Nat):Int)) _ _ rfl OneK.out Qv H.v2 Yo (by rw[Int.toNat_of_nonneg hg];rfl)) ?_;refine gX (WJ n.dg.toNat (by have:=hn.dg;unfold R64 at this;omega) _ (hT.bel H.bel).bru) ?_;rintro e w6 ⟨rfl,k6⟩;replace H:=H.call k6;refine⟨_,rfl,?_⟩;refine aBf (t0:=[32]) (t1:=kU n.dg.toNat) H ?_;clear H;intro w7 H;refine gX (mX m2 [[32],kU n.dg.toNat] 2 H.b2 hp (by simp only[List.flatten_cons,List.flatten_nil,List.length_append,List.length_cons,List.length_nil];omega) (show 2<=1000 by omega)) ?_;rintro e w8 ⟨p3,v3,rfl,hp3,H1⟩;refine⟨_,rfl,?_⟩;clear H hp p2 v2;have H:=H1;clear H1;obtain⟨m3,em3⟩:∃m,m=m2++[[32],kU n.dg.toNat].flatten:=⟨_,rfl⟩;rw[<-em3] at H;have lm3:m3.length<=m2.length+17:=by rw[em3];simp only[List.flatten_cons,List.flatten_nil,List.length_append,List.length_cons,List.length_nil];omega
 refine aC<|zI (λA W=>∃(p' v':Value),A.tmps.size=63/\A.defers=[]/\A.eval (.tmp 0)=.pointer (some ⟨b,0,none⟩)/\A.eval (.tmp 3)=.pointer (some ⟨w.heap.size,0,none⟩)/\I8 b p'/\Cx w0 W (bE 69 b 313 313 (gD h p' v')::sP w0.heap.size v' (m3++(if n.vS then [] else [32,119,101,97,107]))::bE 57 w.heap.size 14 14 (gH n)::L)) ?_ (λC W2 hI=>?_)
 .refine aD<|qa ?_
  cases hv:n.vS with
  |true=>
   refine qg (aR (v:=.bool true) _ _ rfl OneK.out Qv H.v2 Yo (by rw[<-hv];rfl)) ?_;refine qa ?_;refine aC<|aQ Qv ?_;exact uV ⟨rfl,p3,v3,YA,YB,Qv,Qv,hp3,by rw[if_pos rfl,List.append_nil];exact H⟩
  |false=>
   refine qg (aR (v:=.bool false) _ _ rfl OneK.out Qv H.v2 Yo (by rw[<-hv];rfl)) ?_;refine qa ?_;refine aC<|aT Qv ?_;refine aJ<|qa ?_;refine aBe (t0:=[32,119,101,97,107]) H ?_;clear H;intro w9 H;refine gX (mX m3 [[32,119,101,97,107]] 1 H.b2 hp3 (by simp only[List.flatten_cons,List.flatten_nil,List.length_append,List.length_cons,List.length_nil];omega) (show 1<=1000 by omega)) ?_;rintro e w10 ⟨p4,v4,rfl,hp4,H1⟩;refine⟨_,rfl,?_⟩;refine DJ ⟨rfl,p4,v4,YA,YB,Qv,Qv,hp4,?_⟩;rw[if_neg Yc];exact H1
 clear H hp3 b0 b3 hs hd b18 b19 p3 v3 hc hkr B;obtain⟨p3,v3,hs,hd,b0,b3,hp3,H⟩:=hI;obtain⟨m4,em4⟩:∃m,m=m3++(if n.vS then [] else [32,119,101,97,107]):=⟨_,rfl⟩;have lm4:m4.length<=m3.length+5:=by rw[em4,List.length_append];split<;>simp only[List.length_cons,List.length_nil]<;>omega
 rw[<-em4] at H;refine aH<|aD (aG ?_);refine qa ?_;refine qg (cZ _ _ rfl ManyK.out Qv H.v2 Yo aLF) ?_;refine qa ?_;refine aC<|aM ?_;refine cO (λr A W=>∃(k:Nat) (p' v':Value),k<=4/\4-k<=r/\A.tmps.size=63/\A.defers=[]/\A.eval (.tmp 0)=.pointer (some ⟨b,0,none⟩)/\A.eval (.tmp 47)=aP (λj=>.bool (n.rl.I j)) 0 4/\A.eval (.tmp 48)=.int .i64 (k:Nat)/\I8 b p'/\Cx w0 W (bE 69 b 313 313 (gD h p' v')::sP w0.heap.size v' (m4++tH n.rl.I k)::L)) 4
  ⟨0,p3,v3,Xz _,Yo,YA,YB,Qv,Qv,Qv,hp3,by rw[show tH n.rl.I 0=[] from rfl,List.append_nil];exact H.f2.tl⟩ (λr B W hI=>?_)
 clear b0 b3 hs hd H hp3;obtain⟨k,p2,v2,hk,hkr,hs,hd,b0,b47,b48,hp,H⟩:=hI;have lk:=GU n.rl.I k hk;refine aD (aG ?_);refine qa ?_;refine aC<|aH<|iB (λhc=>?_) (λhc=>?_)
 .have hin:k<4:=by have:=Xu hc;omega
  refine aS<|zI (λA W=>∃(p' v':Value),A.tmps.size=63/\A.defers=[]/\A.eval (.tmp 0)=.pointer (some ⟨b,0,none⟩)/\A.eval (.tmp 47)=aP (λj=>.bool (n.rl.I j)) 0 4/\A.eval (.tmp 48)=.int .i64 (k:Nat)/\I8 b p'/\Cx w0 W (bE 69 b 313 313 (gD h p' v')::sP w0.heap.size v' (m4++tH n.rl.I (k+1))::L)) ?_ (λC W2 hI=>?_)
  .refine aM<|aD<|qa ?_
   cases hv:n.rl.I k with
   |true=>
    refine qg ((jP _ _ _ _ rfl ArrK.out OneK.out Qv Qv rfl hin _).trans (by rw[hv])) ?_;iterate 2 refine qa ?_
    refine aC<|aD ?_;iterate 2 refine qa ?_
    refine aC<|aQ Qv ?_;exact uV ⟨rfl,p2,v2,YA,YB,Qv,Qv,Qv,hp,by rw[show tH n.rl.I (k+1)=tH n.rl.I k++(if n.rl.I k then [] else [32,111,117,116]++itoa (k:Nat)) from rfl,hv,if_pos rfl,List.append_nil];exact H⟩
   |false=>
    refine qg ((jP _ _ _ _ rfl ArrK.out OneK.out Qv Qv rfl hin _).trans (by rw[hv])) ?_;iterate 2 refine qa ?_
    refine aC<|aD ?_;iterate 2 refine qa ?_
    refine aC<|aT Qv ?_;refine aJ ?_;iterate 2 refine qa ?_
    have rk:R64 ((k:Nat):Int):=by unfold R64;omega
    have ik:=nL rk;refine kX (uK (k:Nat) rk _ (hT.bel H.bel).pow) ?_;rintro e w6 ⟨rfl,k6⟩;replace H:=H.call k6;refine⟨_,rfl,?_⟩;refine aBf (t0:=[32,111,117,116]) (t1:=itoa (k:Nat)) H ?_;clear H;intro w7 H;refine gX (mX (m4++tH n.rl.I k) [[32,111,117,116],itoa (k:Nat)] 2 H.b2 hp (by simp only[List.flatten_cons,List.flatten_nil,List.length_append,List.length_cons,List.length_nil];omega) (show 2<=1000 by omega)) ?_;rintro e w8 ⟨p4,v4,rfl,hp4,H1⟩;refine⟨_,rfl,?_⟩;refine DJ ⟨rfl,p4,v4,YA,YB,Qv,Qv,Qv,hp4,?_⟩;rw[show tH n.rl.I (k+1)=tH n.rl.I k++(if n.rl.I k then [] else [32,111,117,116]++itoa (k:Nat)) from rfl,hv,if_neg Yc, <-List.append_assoc];rw[show [[32,111,117,116],itoa (k:Nat)].flatten=[32,111,117,116]++itoa (k:Nat) by simp] at H1;exact H1
  .clear b0 b47 b48 hs hd H hp;obtain⟨p4,v4,hs,hd,b0,b47,b48,hp,H⟩:=hI;refine aJ (aG ?_);repeat refine qa ?_
   exact bD ⟨4-(k+1),Yo,k+1,p4,v4,Yo,Yo,YA,YB,Qv,Qv,Eq.trans Qv YC,hp,H⟩
 obtain rfl:k=4:=by have:=Xg hc;omega
 refine bY (eY ?_);refine aJ<|qa ?_;refine aBe (t0:=[10]) H ?_;clear H;intro w9 H;refine gX (mX (m4++tH n.rl.I 4) [[10]] 1 H.b2 hp (by simp only[List.flatten_cons,List.flatten_nil,List.length_append,List.length_cons,List.length_nil];omega) (show 1<=1000 by omega)) ?_;rintro e w10 ⟨p4,v4,rfl,hp4,H1⟩;refine⟨_,rfl,?_⟩;refine DJ (UZ YB (aGr rfl) ⟨p4,v4,rfl,hp4,?_⟩);have e:m4++tH n.rl.I 4++[[10]].flatten=l++rpT n:=by
  rw[em4,em3,em2,em1];unfold rpT;simp only[List.flatten_cons,List.flatten_nil,List.append_assoc,List.append_nil]
 rw[e] at H1;exact H1
theorem aGW(n:Nd)(l:List Ms):(gF n l).dg=n.dg:=by
 unfold gF;split
 .rfl
 .split
  .split<;>rfl
  .rfl
theorem NH{x:Ip}{c:Cl}(hx:IpOK x)(hc:lT c)(hn:n∈frR x c):NdOK n/\0<=n.dg:=by
 unfold frR at hn;split at hn
 .rename_i hE;obtain⟨i,hi,rfl⟩:=List.mem_map.1 hn;unfold P6 at hi;have h1:=List.mem_filter.1 hi;have i4:=List.mem_range.1 h1.1;have gi:(i:Int)≠x.bad:=Xu h1.2;refine⟨aAs hx hc i4,?_⟩;unfold gG;rw[if_neg gi,aGW];have e:=(aGk hE i4 gi).trans (WF hE i4 gi);show 0<=(ndK x c 5 i).dg
  rw[e];unfold IZ;omega
 .cases hn
theorem wZ:∀{L:List Nd},(∀n,n∈L->NdOK n)->(L.flatMap rpT).length<=600*L.length
 |[],_=>Xr _
 |n::L,h=>by
  have h1:=aID (h n List.mem_cons_self);have h2:=wZ (L:=L) (λm hm=>h m (List.mem_cons_of_mem _ hm));rw[List.flatMap_cons,List.length_append,List.length_cons,Nat.mul_succ];omega
theorem aDu{t:Pl}(hx:IpOK s.x)(hc:lT s.c)(h:qL s ws=some t):t.o.length<=s.o.length+2400:=by
 unfold qL at h;split at h
 .split at h
  .cases h
   show (s.o++(frR s.x s.c).flatMap rpT).length<=_
   rw[List.length_append];have h1:=wZ (L:=frR s.x s.c) (λn hn=>(NH hx hc hn).1);have h2:=U5 s.x s.c;omega
  .cases h
 .cases h
instance iDrvF_1:EntK Tryz.prog 43:=⟨λargs w=>Yh⟩
theorem aLv:∀j,j<297->gD (jX fr D rd bad lv) p v (0+0+j)=jU fr D j:=λj hj=>by
 unfold gD jX;rw[if_pos Yo,if_pos Yo,show 0+0+j=j by omega]
theorem aLw:∀j,j<14->gD (jX fr D rd bad lv) p v (0+297+j)=lY rd bad lv j:=λj hj=>by
 unfold gD jX;rw[if_pos Yo,if_neg Yo,show 0+297+j-297=j by omega]
theorem UF(h:bU s.x s.c=0):qL s []=some ⟨frC s.x s.c,{ s.x with ly:=[] },s.o++(frR s.x s.c).flatMap rpT⟩:=by
 unfold qL;dsimp only;rw[if_pos h]
theorem aHu(h:bU s.x s.c≠0):qL s []=none:=by
 unfold qL;dsimp only;rw[if_neg h]
set_option maxRecDepth 10000 in
theorem SE(hT:TabOK w0)(hP:PlAt w0 w b s)(hsl:s.o.length<=140737488340000)(ws:List (List UInt8))(ao:Option Addr)(cap:Nat)(hl:ws.length<=1000000):Calls Tryz.prog 43 #[.pointer (some ⟨b,0,none⟩),.slice ao ws.length cap] w λe w'=>e=.returned (.bool (qL s ws).isSome)/\PlAt w0 w' b ((qL s ws).getD s):=by
 obtain⟨D,c,p,v,hO,hp,H⟩:=hP;refine bB Tryz.func43 rfl 46 rfl Yd (λA hs hd hb=>?_);have b0:A.eval (.tmp 0)=.pointer (some ⟨b,0,none⟩):=hb 0 _ rfl;have b1:A.eval (.tmp 1)=.slice ao ws.length cap:=hb 1 _ rfl;clear hb;have no:qL s ws=none->∀A' w',Cx w0 w' (plL w0.heap.size b s.c.fr D c p v s.o)->A'.defers=[]->A'.eval (.tmp 4)=.bool false->bodyPost Tryz.prog Tryz.f43 (λe w'=>e=.returned (.bool (qL s ws).isSome)/\PlAt w0 w' b ((qL s ws).getD s)) .ret A' w':=λe0 A' w' H' hd' h4=>aK hd' (bL rfl h4) ⟨by rw[e0];rfl,by rw[e0];exact⟨D,c,p,v,hO,hp,H'⟩⟩
 refine aD (aG ?_);refine qa ?_;refine aC<|aH<|aD ?_;iterate 2 refine qa ?_
 cases ws with
 |cons x q=>
  refine qg (dC (b:=true) _ _ rfl Qv Qv (Xt (by rw[List.length_cons];omega)) _) ?_;refine aC<|aT Qv ?_;refine aD<|qa ?_;refine aC ?_;exact aN (fC (no rfl _ _ H YB Qv))
 |nil=>
 refine qg (dC (b:=false) _ _ rfl Qv Qv Yc _) ?_;refine aC<|aQ Qv ?_;refine aS ?_;obtain⟨P1,eP1⟩:∃P1,P1=gD (jX s.c.fr D c.rd c.bad (.slice c.lo c.LL.length c.lc)) p v:=⟨_,rfl⟩;obtain⟨p1,p2,p3,p4⟩:=N9 (x:=c.x) (fr:=s.c.fr) (D:=D) (c:=s.c) rfl hO.nd;rw[hO.x] at p1 p2 p3 p4;obtain⟨rs,ers⟩:∃rs,rs=frR s.x s.c:=⟨_,rfl⟩;rw[<-ers] at p4;have hip:IpOK c.x:=by rw[hO.x];exact hO.ip
 have hcls:lT ⟨s.c.fr,λi=>(D i).1⟩:=⟨hO.cl.1,λi hi=>by show NdOK (D i).1;rw[hO.nd i hi];exact hO.cl.2 i hi⟩;replace H:=H.drew;have hag:∀i,i<4->xU w.drew (D i).1 (D i).2.1 (D i).2.2:=λi hi=>by
  have ho:World.ownsRow _ _ _ _ _ _ _:=H.o2 i hi;obtain⟨a3,c3,e,hs3,_⟩:=kK ho
  cases e
  exact hs3
 have hj:JRd w.drew c.lo c.LL:=aMF ⟨H.o3,H.o4⟩ (λd hd=>⟨hO.by_ d hd,λi=>hip.g d.y (List.mem_map.2 ⟨d,hd,rfl⟩) i⟩);have hS:Its [bE 69 b 313 313 (gD (jX s.c.fr D c.rd c.bad (.slice c.lo c.LL.length c.lc)) p v)] w.drew:=Its.cons H.o0 (Its.nil _);refine aH<|eU (S:=Its [bE 69 b 313 313 (gD (jX s.c.fr D c.rd c.bad (.slice c.lo c.LL.length c.lc)) p v)]) (.mv 0 (.mv 1 (.mv 2 (.rd 3 (.mv 4 (.mv 5 (.mv 6 (.rd 7 (.two 8 13 (.mv 9 (.mv 10 (.mv 11 (.mv 12 (.go 13 (.go 14 (.mv 15 (.mv 16 .fin)))))))) (.go 8 (.mv 9 (.mv 10 (.mv 11 (.mv 12 (.go 14 (.mv 15 (.mv 16 .fin))))))))))))))))) [14] Yl Yl ?_;iterate 3 refine qj ?_
 refine Yr rfl hS (λ_ H=>cZ _ _ rfl ManyK.out Qv H.v0 Yo aLv) ?_;iterate 3 refine qj ?_
 refine Yr rfl hS (λ_ H=>cZ _ _ rfl ManyK.out Qv H.v0 Yo aLw) ?_;refine aCa (r:=.go 14 (.mv 15 (.mv 16 .fin))) (λA W'=>∃(qb:Nat) (D':Nat->Nd×Ad) (vr:Value),A.tmps.size=46/\A.defers=[]/\A.eval (.tmp 0)=.pointer (some ⟨b,0,none⟩)/\A.eval (.tmp 5)=.pointer (some ⟨qb,0,none⟩)/\A.eval (.tmp 23)=aP (jU (frC s.x s.c).fr D') 0 297/\A.eval (.tmp 24)=vr/\A.eval (.tmp 25)=.int .i64 (bU s.x s.c)/\(∀i,i<4->(D' i).1=(frC s.x s.c).nd i)/\Cx w0 W' (bE 46 qb 297 297 (pR 0 (λ_=>dW) (λ_=>gN (none,0) 0))::fF w0.heap.size 57 14 vr rs.length (kG gH 14 rs)::lN w0.heap.size D'::plL w0.heap.size b s.c.fr D c p v s.o)) (λA W' hT'=>?_) (λhcut=>?_)
 .clear b0 b1 hs hd H hS hag hj;obtain⟨qb,D',vr,hs,hd,b0,b5,b23,b24,b25,hD',H⟩:=hT';refine GJ ?_;refine dS rfl Yw (λK hK=>aW _ _ _ _ rfl ManyK.out Qv Qv H.v0 Yo (nX _ _) rfl (λw6 m6 k6 z6=>hK _ (λh=>absurd h Yc) ?_));replace H:=H.a0.s k6 (m6.congr bX);iterate 2 refine qj ?_
  refine fI<|aH<|aD<|qa ?_;by_cases hE:bU s.x s.c=0
  .refine qg (nQ (b:=false) _ _ rfl Qv Qv (Xf (by rw[hE];decide)) _) ?_;refine aC<|aQ Qv ?_;refine aS<|aD ?_;iterate 5 refine qa ?_
   refine jB H.a3 (aBb _ _ _ _ _ _ _ _ _) (nX _ _) ?_;clear H;intro w7 H z7;iterate 3 refine qa ?_
   refine tY H.a3 (q:=0+297+13) (u:=.slice none 0 0) (g':=gD (jX (frC s.x s.c).fr D' c.rd c.bad (.slice none 0 0)) p v) (Q6 (q:=13) Yo (GH _ _ _ _)) ?_;clear H;intro w8 H z8;refine aC ?_;have ho:World.ownsRow _ _ _ _ _ _ _:=H.o1;obtain⟨ra,rc,rfl,hrc⟩:=dY ho;replace H:=H.tl.f2.f3.f1.f3.b2;have hrl:rs.length<=4:=by rw[ers];exact U5 _ _
   have hrn:∀n,n∈rs->NdOK n/\0<=n.dg:=λn hn=>NH hO.ip hO.cl (by rw[<-ers];exact hn)
   refine aH<|aD ?_;iterate 3 refine qa ?_
   refine aC<|aM ?_;refine cO (λr A W=>∃(k:Nat) (p' v':Value),k<=rs.length/\rs.length-k<=r/\A.tmps.size=46/\A.defers=[]/\A.eval (.tmp 0)=.pointer (some ⟨b,0,none⟩)/\A.eval (.tmp 36)=.slice ra rs.length rc/\A.eval (.tmp 37)=.int .i64 (rs.length:Nat)/\A.eval (.tmp 38)=.int .i64 (k:Nat)/\I8 b p'/\Cx w0 W [bE 69 b 313 313 (gD (jX (frC s.x s.c).fr D' c.rd c.bad (.slice none 0 0)) p' v'),sP w0.heap.size v' (s.o++(rs.take k).flatMap rpT),lN w0.heap.size D',fF w0.heap.size 57 14 (.slice ra rs.length rc) rs.length (kG gH 14 rs)]) rs.length
    ⟨0,p,v,Xz _,Yo,YA,YB,Qv,Qv,Qv,Qv,hp,by rw[List.take_zero,List.flatMap_nil,List.append_nil];exact H.sub (.cons_cons _ (.cons_cons _ (.cons_cons _ (.cons_cons _ (List.nil_sublist _)))))⟩ (λr B W hI=>?_)
   clear b0 b5 b23 b24 b25 hs hd H hp;obtain⟨k,p5,v5,hk,hkr,hs,hd,b0,b36,b37,b38,hp,H⟩:=hI;refine aD (aG ?_);refine qa ?_;refine aC<|aH<|iB (λhc=>?_) (λhc=>?_)
   .have hin:k<rs.length:=by have:=Xu hc;omega
    obtain⟨n,en⟩:∃n,n=rs[k]:=⟨_,rfl⟩;have hk?:rs[k]?=some n:=by rw[List.getElem?_eq_getElem hin,en]
    have hmem:n∈rs:=List.mem_of_getElem? hk?;have hrd:RdS gH 14 W ra rs:=GV (F:=gH) (s:=14) H.o3 Yc;obtain⟨rb,ro,rfl,hcell⟩:=hrd Yo;have hcell:=hcell k n hk?;refine aS<|aH (aM ?_);refine aD<|qg (eB (i:=k) _ _ _ _ rfl SlcK.out SizK.out Qv Qv rfl hin _) ?_;refine qg (qE (g:=gH n) ManyK.out hcell rfl Qv) ?_;refine kR H ?_;clear H;intro w9 H z9;refine jB H.a0 (g':=gH n) bX (mE _ _) ?_;clear H;intro w10 H z10;refine aC<|aJ ?_;iterate 2 refine qa ?_
    have hlen:(s.o++(rs.take k).flatMap rpT).length<=140737488350000:=by
     have h1:=wZ (L:=rs.take k) (λm hm=>(hrn m (List.mem_of_mem_take hm)).1);rw[List.length_take] at h1;rw[List.length_append];omega
    refine gX (PL (s.o++(rs.take k).flatMap rpT) n (hrn n hmem).1 (hrn n hmem).2 H.tl hp hT hlen) ?_;rintro e w11 ⟨p6,v6,rfl,hp6,H1⟩;refine⟨_,rfl,?_⟩;refine fG<|aJ ?_;repeat refine qa ?_
    refine bD ⟨rs.length-(k+1),Yo,k+1,p6,v6,Yo,Yo,YA,YB,Qv,Qv,Qv,Eq.trans Qv YC,hp6,?_⟩;rw[<-List.take_append_getElem hin,List.flatMap_append, <-List.append_assoc,List.flatMap_cons,List.flatMap_nil,List.append_nil, <-en];exact H1
   .obtain rfl:k=rs.length:=by have:=Xg hc;omega
    rw[List.take_length] at H;refine bY (eY ?_);refine aD<|qa ?_;refine aC ?_;have hE2:=O0 hE;refine aN (aK YB (bL rfl Qv) ⟨by rw[UF hE];rfl,?_⟩);rw[UF hE];have ex:Li.x { c with LL:=[],lo:=none,lc:=0 }={ s.x with ly:=[] }:=by
     rw[<-hO.x];rfl
    have efr:(frC s.x s.c).fr=s.c.fr+1:=by unfold frC;rw[if_pos hE]
    refine⟨D',{ c with LL:=[],lo:=none,lc:=0 },p5,v5,{ nd:=hD',x:=ex,cl:=frC_ok hO.ip hO.cl,ip:=⟨hO.ip.rd,hO.ip.bad,λ_ h=>nomatch h⟩,bad:=hO.bad,ly:=Xz _,lc:=Xr _,by_:=(λ_ h=>nomatch h),fr:=⟨?_,?_⟩ },hp,?_⟩
    .show 0<=(frC s.x s.c).fr
     rw[efr];have:=hE2.2.1;omega
    .show (frC s.x s.c).fr<=_
     rw[efr];have:=hE2.2.1;omega
    .rw[<-ers];exact OJ _ H
  .refine qg (nQ (b:=true) _ _ rfl Qv Qv (Xt hE) _) ?_;refine aC<|aT Qv ?_;refine aD<|qa ?_;refine aC ?_;exact aN (fC (no (aHu hE) _ _ H.tl.tl.tl YB Qv))
 .refine LM ?_ ?_
  .refine bR rfl rfl Yw (λK hK=>?_);have hsz:=H.size;refine dL _ 10 _ _ _ rfl Qv Qv (EntK.out _ _) (vH c.x s.c.fr D c.lo c.lc c.LL _ rfl hip hcls hag hj) ?_;rintro e w5 ⟨D',vr,rfl,hD',G⟩;rw[hO.x,p4] at G;replace H:=H.plus G;refine⟨_,rfl,hK _ _ (λ_ h=>Its.cons H.o2 (Its.nil _)) ?_⟩;clear hK K;refine qj ?_;refine bS rfl rfl (λ_ _ _ h=>h) Yw (λw=>jZ _ rfl Qv w) ?_;refine bS rfl rfl (λ_ _ _ h=>h) Yw (λw=>kE _ rfl Qv w) ?_;refine bS rfl rfl (λ_ _ _ h=>h) Yw (λw=>kF _ rfl Qv w) ?_;refine bR rfl rfl Yw (λK hK=>?_);refine gQ _ _ rfl ZerK.out Yd ?_;intro w6 m6 k6 z6;replace H:=H.add k6 (bE _ _ _ _ _) m6 (λj e=>Nat.le_of_eq e.symm);refine hK _ _ (λ_ h=>Its.cons H.o3 (Its.nil _)) ?_;clear hK K;refine hcut _ _ ⟨_,D',vr,YA,YB,Qv,Qv,Eq.trans Qv (by rw[hO.x,p2]),Qv,Eq.trans Qv (by rw[hO.x,p1]),λi hi=>by rw[hO.x] at hD';exact (hD' i hi).trans (p3 i hi),?_⟩;exact (pI (xI H.f1 hsz).f2 hsz).b2.b1
  .refine bR rfl rfl Yw (λK hK=>?_);refine gQ _ _ rfl ZerK.out Yd ?_;intro w6 m6 k6 z6;replace H:=H.add k6 (bE _ _ _ _ _) m6 (λj e=>Nat.le_of_eq e.symm);refine hK _ _ (λ_ h=>Its.cons H.o1 (Its.nil _)) ?_;clear hK K;refine bR rfl rfl Yw (λK hK=>?_);have hsz:=H.size;refine dL _ 10 _ _ _ rfl Qv Qv (EntK.out _ _) (vH c.x s.c.fr D c.lo c.lc c.LL _ rfl hip hcls (λi hi=>(hag i hi).below k6) (hj.below k6)) ?_;rintro e w5 ⟨D',vr,rfl,hD',G⟩;rw[hO.x,p4] at G;replace H:=H.plus G;refine⟨_,rfl,hK _ _ (λ_ h=>Its.cons H.o3 (Its.nil _)) ?_⟩;clear hK K;refine qj ?_;refine bS rfl rfl (λ_ _ _ h=>h) Yw (λw=>jZ _ rfl Qv w) ?_;refine bS rfl rfl (λ_ _ _ h=>h) Yw (λw=>kE _ rfl Qv w) ?_;refine bS rfl rfl (λ_ _ _ h=>h) Yw (λw=>kF _ rfl Qv w) ?_;refine hcut _ _ ⟨_,D',vr,YA,YB,Qv,Qv,Eq.trans Qv (by rw[hO.x,p2]),Qv,Eq.trans Qv (by rw[hO.x,p1]),λi hi=>by rw[hO.x] at hD';exact (hD' i hi).trans (p3 i hi),?_⟩;exact ((pI (xI H hsz).f1 hsz).f1).f2
end Go.Proofs.YthimcecbgpamdaaGreatDoor
