import Derived.Test.YthimcecbgpamdaaGreatNear166
set_option maxHeartbeats 4000000
namespace Go.Proofs.YthimcecbgpamdaaGreat
open Go.RowKit
theorem MK(s:St)(dt q:Int)(w:World)(hs:s.Ok)(hdt:R64 dt)(hq:R64 q):Calls Tryz.prog 87 #[nY s,.int .i64 dt,.int .i64 q] w λe w'=>e=.returned (nY (pW s dt q))/\Below w.heap.size w w':=by
 obtain⟨w1,e1,g1⟩:=F7 w s;have OK:=aB hs;have E1:=aB e1;have G1:=aB g1;have Rdt:=aB hdt;have Rq:=aB hq;clear hs e1 g1 hdt hq;go_enter Tryz.func87,Tryz.ntmps87
 go_wp2_with fail
 rw[<-aA E1];refine (uO _ _ s.P01 dt _ (aA OK).P01 (aA Rdt) (aA G1).rk).mono ?_;rintro e w2 ⟨rfl,h,k⟩;have G2:=aB ((aA G1).kept k h);clear h k G1;have c4:=(aA G2).src.c4;go_wp2_with fail
 clear c4;refine (uO _ _ s.P11 dt _ (aA OK).P11 (aA Rdt) (aA G2).rk).mono ?_;rintro e w3 ⟨rfl,h,k⟩;have G3:=aB ((aA G2).kept k h);clear h k G2;have c0:=(aA G3).src.c0;have c1:=(aA G3).src.c1;have c2:=(aA G3).src.c2;have c3:=(aA G3).src.c3;have c4:=(aA G3).src.c4;have c5:=(aA G3).src.c5;have c6:=(aA G3).src.c6;go_wp2_with fail
 clear c0 c1 c2 c3 c4 c5 c6;obtain⟨w4,e4,h⟩:=VN (aA G3);rw[<-e4];obtain⟨bn,ebn⟩:∃bn,bn=w3.heap.size:=⟨_,rfl⟩;rw[<-ebn] at h;rw[<-ebn];have G4:=aB h;clear e4 h ebn G3;have hS4:SAt w4.drew w.heap.size s:=(aA G4).g.src;refine dF (S:=λu=>SAt u w.heap.size s) [(0,false),(1,false),(2,false),(3,false),(4,false),(5,false),(6,false),(7,true),(8,true),(9,false),(10,true)] [] Yl Yl ?_;iterate 7
  refine bB (v:=?_) rfl (λ_ _ _ h=>h) (by rfl) hS4 ?_ ?_
  rotate_left 1
  .intro wx hwx;have c0:=hwx.c0;have c1:=hwx.c1;have c2:=hwx.c2;have c3:=hwx.c3;have c4:=hwx.c4;clear hwx;go_simp<;>exact rfl
  go_frame
 refine aZ rfl (λK hK=>?_);go_simp
 have Gd:=aB (aA G4).drew;refine (uO _ _ s.V dt _ (aA OK).V (aA Rdt) (aA Gd).g.rk).mono ?_;rintro e w5 ⟨rfl,h,k⟩;have G5:=aB ((aA Gd).kept k h);have hS5:=(aA G5).g.src;refine hK _ _ (λ_=>hS5) ?_;clear hK K hS4;clear h k G4 Gd;refine aZ rfl (λK hK=>?_);go_simp
 refine (xD _ _ s.X (dM s.V dt) _ (aA OK).X (kH _ _) (aA G5).g.rk).mono ?_;rintro e w6 ⟨rfl,h,k⟩;have G6:=aB ((aA G5).kept k h);have hS6:=(aA G6).g.src;refine hK _ _ (λ_=>hS6) ?_;clear hK K hS5;clear h k G5;iterate 1
  refine bB (v:=?_) rfl (λ_ _ _ h=>h) (by rfl) hS6 ?_ ?_
  rotate_left 1
  .intro wx hwx;have c0:=hwx.c0;have c1:=hwx.c1;have c2:=hwx.c2;have c3:=hwx.c3;have c4:=hwx.c4;clear hwx;go_simp<;>exact rfl
  go_frame
 obtain⟨w7,e4,h,k⟩:=(aA G6).nw.pX (jB s.X (dM s.V dt));have c:=(aA G6).nw.c0;have f:=(aA G6).nw.free 0;refine aZ rfl (λK hK=>?_);go_simp
 rw[<-e4];have G7:=aB ((aA G6).put k h);refine hK _ _ (λ_=>(aA G7).g.src) ?_;clear hK K e4 h k c f hS6 G6;refine fA ?_;have c2:=(aA G7).g.src.c2;go_wp2_with fail
 clear c2;refine (xD _ _ s.P00 (dM s.P01 dt) _ (aA OK).P00 (kH _ _) (aA G7).g.rk).mono ?_;rintro e w8 ⟨rfl,h,k⟩;have G8:=aB ((aA G7).kept k h);clear h k G7;go_wp2_with fail
 refine (xD _ _ (jB s.P00 (dM s.P01 dt)) (dM s.P01 dt) _ (nM _ _) (kH _ _) (aA G8).g.rk).mono ?_;rintro e w9 ⟨rfl,h,k⟩;have G9:=aB ((aA G8).kept k h);clear h k G8;go_wp2_with fail
 refine (uO _ _ (dM s.P11 dt) dt _ (kH _ _) (aA Rdt) (aA G9).g.rk).mono ?_;rintro e w10 ⟨rfl,h,k⟩;have G10:=aB ((aA G9).kept k h);clear h k G9;go_wp2_with fail
 refine (xD _ _ (jB (jB s.P00 (dM s.P01 dt)) (dM s.P01 dt)) (dM (dM s.P11 dt) dt) _ (nM _ _) (kH _ _) (aA G10).g.rk).mono ?_;rintro e w11 ⟨rfl,h,k⟩;have G11:=aB ((aA G10).kept k h);clear h k G10;obtain⟨w12,e4,h,k⟩:=(aA G11).nw.pP00 (jB (jB (jB s.P00 (dM s.P01 dt)) (dM s.P01 dt)) (dM (dM s.P11 dt) dt));have c:=(aA G11).nw.c2;have f:=(aA G11).nw.free 2;have G12:=aB ((aA G11).put k h);have E4:=aB e4;clear h k e4
 go_upto_region 7 with fail
 rw[<-aA E4];clear c f E4 G11;have c3:=(aA G12).g.src.c3;go_wp2_with fail
 clear c3;refine (xD _ _ s.P01 (dM s.P11 dt) _ (aA OK).P01 (kH _ _) (aA G12).g.rk).mono ?_;rintro e w13 ⟨rfl,h,k⟩;have G13:=aB ((aA G12).kept k h);clear h k G12;obtain⟨w14,e4,h,k⟩:=(aA G13).nw.pP01 (jB s.P01 (dM s.P11 dt));have c:=(aA G13).nw.c3;have f:=(aA G13).nw.free 3;have G14:=aB ((aA G13).put k h);have E4:=aB e4;clear h k e4
 go_upto_region 8 with fail
 rw[<-aA E4];clear c f E4 G13;have c4:=(aA G14).g.src.c4;go_wp2_with fail
 clear c4;refine (xD _ _ s.P11 q _ (aA OK).P11 (aA Rq) (aA G14).g.rk).mono ?_;rintro e w15 ⟨rfl,h,k⟩;have G15:=aB ((aA G14).kept k h);clear h k G14;obtain⟨w16,e4,h,k⟩:=(aA G15).nw.pP11 (jB s.P11 q);have c:=(aA G15).nw.c4;have f:=(aA G15).nw.free 4;have G16:=aB ((aA G15).put k h);have E4:=aB e4;clear h k e4
 go_upto_region 9 with fail
 rw[<-aA E4];clear c f E4 G15;have rk0:=(aA G16).g.rk.cell0;obtain⟨w17,e4,h,k⟩:=(aA G16).nw.pB _;have c:=(aA G16).nw.c5;have f:=(aA G16).nw.free 5;have G17:=aB ((aA G16).put k h);have E4:=aB e4;clear h k e4
 go_upto_region 10 with fail
 rw[<-aA E4];clear c f E4 rk0 G16;obtain⟨t,et⟩:∃t:St,t=pW s dt q:=⟨_,rfl⟩;have N:=aB (show SAt w17 bn t by rw[et];exact (aA G17).nw);have c0:=(aA N).c0;have c1:=(aA N).c1;have c2:=(aA N).c2;have c3:=(aA N).c3;have c4:=(aA N).c4;have c5:=(aA N).c5;have c6:=(aA N).c6;have b0:=(aA G17).g.res.c0;have b1:=(aA G17).g.res.c1;have b2:=(aA G17).g.res.c2;have b3:=(aA G17).g.res.c3;have b4:=(aA G17).g.res.c4;have b5:=(aA G17).g.res.c5;have b6:=(aA G17).g.res.c6;have f0:=(aA G17).g.res.free 0;have f1:=(aA G17).g.res.free 1;have f2:=(aA G17).g.res.free 2;have f3:=(aA G17).g.res.free 3;have f4:=(aA G17).g.res.free 4;have f5:=(aA G17).g.res.free 5;have f6:=(aA G17).g.res.free 6;have ln:=(aA G17).lt;obtain⟨u,e4,h4,k4⟩:=(aA G17).g.res.put t;have E4:=aB e4;have H4:=aB h4;have K4:=aB (aF (aA G17).g.bel k4 Yo (aA G17).g.bel.size);have ET:=aB et;clear e4 h4 k4 et;go_wp2_with fail
 rw[<-aA E4];have p0:=(aA H4).c0;have p1:=(aA H4).c1;have p2:=(aA H4).c2;have p3:=(aA H4).c3;have p4:=(aA H4).c4;have p5:=(aA H4).c5;have p6:=(aA H4).c6;refine bodyPost_ret (v:=nY t) (by simp[results,Tryz.results87,go_sem,p0,p1,p2,p3,p4,p5,p6]) rfl ⟨by rw[aA ET],aA K4⟩
theorem PG(s:St)(z r gate:Int)(w:World)(hs:s.Ok)(hz:R64 z)(hr:R64 r)(hg:R64 gate)(hd:offW s r<=0):Calls Tryz.prog 86 #[nY s,.int .i64 z,.int .i64 r,.int .i64 gate] w λe w'=>e=.returned (.tuple #[nY (lM s z r gate),.bool (mR s z r gate)])/\Below w.heap.size w w':=by
 obtain⟨y,ey⟩:∃y,y=offY s z:=⟨_,rfl⟩;obtain⟨d,ed⟩:∃d,d=offW s r:=⟨_,rfl⟩;rw[<-ed] at hd;have EY:=aB ey;have ED:=aB ed;have RY:=aB (show R64 y by rw[ey];exact wJ _ _);have RD:=aB (show R64 d by rw[ed];exact nM _ _);clear ey ed;obtain⟨w1,e1,g1⟩:=F7 w s;have OK:=aB hs;have E1:=aB e1;have G1:=aB g1;have Rz:=aB hz;have Rr:=aB hr;have Rg:=aB hg;clear hs e1 g1 hz hr hg;go_enter Tryz.func86,Tryz.ntmps86
 go_wp2_with fail
 rw[<-aA E1];refine (MR _ _ z s.X _ (aA Rz) (aA OK).X (aA G1).rk).mono ?_;rintro e w2 ⟨rfl,h,k⟩;have G2:=aB ((aA G1).kept k h);clear h k G1;have c2:=(aA G2).src.c2;go_wp2_with fail
 clear c2;refine (xD _ _ s.P00 r _ (aA OK).P00 (aA Rr) (aA G2).rk).mono ?_;rintro e w3 ⟨rfl,h,k⟩;have G3:=aB ((aA G2).kept k h);clear h k G2;rw[show tO z s.X=y from (aA EY).symm,show jB s.P00 r=d from (aA ED).symm];have h1:d<1:=Yo;obtain⟨w4,e4,h,k⟩:=(aA G3).src.pM (wrap64 (s.M+1));have c:=(aA G3).src.c6;have f:=(aA G3).src.free 6;have N:=aB h;have RS:=aB ((aA G3).res.kept k Yo);have BL:=aB (aF (aA G3).bel k (Xr _) (aA G3).bel.size);have E4:=aB e4;clear h k e4
 go_upto_region 6 with fail
 rw[<-aA E4];clear c f E4 G3;obtain⟨t,et⟩:∃t:St,t=s.setM (wrap64 (s.M+1)):=⟨_,rfl⟩;have N2:=aB (show SAt w4 w.heap.size t by rw[et];exact aA N);have c0:=(aA N2).c0;have c1:=(aA N2).c1;have c2:=(aA N2).c2;have c3:=(aA N2).c3;have c4:=(aA N2).c4;have c5:=(aA N2).c5;have c6:=(aA N2).c6;have b0:=(aA RS).c0;have b1:=(aA RS).c1;have b2:=(aA RS).c2;have b3:=(aA RS).c3;have b4:=(aA RS).c4;have b5:=(aA RS).c5;have b6:=(aA RS).c6;have f0:=(aA RS).free 0;have f1:=(aA RS).free 1;have f2:=(aA RS).free 2;have f3:=(aA RS).free 3;have f4:=(aA RS).free 4;have f5:=(aA RS).free 5;have f6:=(aA RS).free 6;obtain⟨u,e4,h4,k4⟩:=(aA RS).put t;have E4:=aB e4;have H4:=aB h4;have K4:=aB (aF (aA BL) k4 Yo (aA BL).size);have ET:=aB et;clear e4 h4 k4 et;go_wp2_with fail
 rw[<-aA E4];have p0:=(aA H4).c0;have p1:=(aA H4).c1;have p2:=(aA H4).c2;have p3:=(aA H4).c3;have p4:=(aA H4).c4;have p5:=(aA H4).c5;have p6:=(aA H4).c6;have OV:pK s z r gate=true:=by apply OO;rw[<-aA ED];omega
 have eU:lM s z r gate=t:=by unfold lM;rw[OV,aA ET];rfl
 have eT:mR s z r gate=false:=by unfold mR;rw[OV];rfl
 refine bodyPost_ret (v:=.tuple #[nY t,.bool false]) (by simp[results,Tryz.results86,go_sem,p0,p1,p2,p3,p4,p5,p6]) rfl ⟨by rw[eU,eT],aA K4⟩
theorem LP(s:St)(z r gate:Int)(w:World)(hs:s.Ok)(hz:R64 z)(hr:R64 r)(hg:R64 gate)(hd:¬offW s r<=0)(hp:dM gate (offW s r)<dM (offY s z) (offY s z)):Calls Tryz.prog 86 #[nY s,.int .i64 z,.int .i64 r,.int .i64 gate] w λe w'=>e=.returned (.tuple #[nY (lM s z r gate),.bool (mR s z r gate)])/\Below w.heap.size w w':=by
 obtain⟨y,ey⟩:∃y,y=offY s z:=⟨_,rfl⟩;obtain⟨d,ed⟩:∃d,d=offW s r:=⟨_,rfl⟩;rw[<-ed] at hd;rw[<-ed, <-ey] at hp;have EY:=aB ey;have ED:=aB ed;have RY:=aB (show R64 y by rw[ey];exact wJ _ _);have RD:=aB (show R64 d by rw[ed];exact nM _ _);clear ey ed;obtain⟨w1,e1,g1⟩:=F7 w s;have OK:=aB hs;have E1:=aB e1;have G1:=aB g1;have Rz:=aB hz;have Rr:=aB hr;have Rg:=aB hg;clear hs e1 g1 hz hr hg;go_enter Tryz.func86,Tryz.ntmps86
 go_wp2_with fail
 rw[<-aA E1];refine (MR _ _ z s.X _ (aA Rz) (aA OK).X (aA G1).rk).mono ?_;rintro e w2 ⟨rfl,h,k⟩;have G2:=aB ((aA G1).kept k h);clear h k G1;have c2:=(aA G2).src.c2;go_wp2_with fail
 clear c2;refine (xD _ _ s.P00 r _ (aA OK).P00 (aA Rr) (aA G2).rk).mono ?_;rintro e w3 ⟨rfl,h,k⟩;have G3:=aB ((aA G2).kept k h);clear h k G2;rw[show tO z s.X=y from (aA EY).symm,show jB s.P00 r=d from (aA ED).symm];have h1:¬d<1:=Yo;go_wp2_with fail
 refine (uO _ _ y y _ (aA RY) (aA RY) (aA G3).rk).mono ?_;rintro e w4 ⟨rfl,h,k⟩;have G4:=aB ((aA G3).kept k h);clear h k G3;go_wp2_with fail
 refine (uO _ _ gate d _ (aA Rg) (aA RD) (aA G4).rk).mono ?_;rintro e w5 ⟨rfl,h,k⟩;have G5:=aB ((aA G4).kept k h);clear h k G4;obtain⟨w6,e4,h,k⟩:=(aA G5).src.pM (wrap64 (s.M+1));have c:=(aA G5).src.c6;have f:=(aA G5).src.free 6;have N:=aB h;have RS:=aB ((aA G5).res.kept k Yo);have BL:=aB (aF (aA G5).bel k (Xr _) (aA G5).bel.size);have E4:=aB e4;clear h k e4
 go_upto_region 6 with fail
 rw[<-aA E4];clear c f E4 G5;obtain⟨t,et⟩:∃t:St,t=s.setM (wrap64 (s.M+1)):=⟨_,rfl⟩;have N2:=aB (show SAt w6 w.heap.size t by rw[et];exact aA N);have c0:=(aA N2).c0;have c1:=(aA N2).c1;have c2:=(aA N2).c2;have c3:=(aA N2).c3;have c4:=(aA N2).c4;have c5:=(aA N2).c5;have c6:=(aA N2).c6;have b0:=(aA RS).c0;have b1:=(aA RS).c1;have b2:=(aA RS).c2;have b3:=(aA RS).c3;have b4:=(aA RS).c4;have b5:=(aA RS).c5;have b6:=(aA RS).c6;have f0:=(aA RS).free 0;have f1:=(aA RS).free 1;have f2:=(aA RS).free 2;have f3:=(aA RS).free 3;have f4:=(aA RS).free 4;have f5:=(aA RS).free 5;have f6:=(aA RS).free 6;obtain⟨u,e4,h4,k4⟩:=(aA RS).put t;have E4:=aB e4;have H4:=aB h4;have K4:=aB (aF (aA BL) k4 Yo (aA BL).size);have ET:=aB et;clear e4 h4 k4 et;go_wp2_with fail
 rw[<-aA E4];have p0:=(aA H4).c0;have p1:=(aA H4).c1;have p2:=(aA H4).c2;have p3:=(aA H4).c3;have p4:=(aA H4).c4;have p5:=(aA H4).c5;have p6:=(aA H4).c6;have OV:pK s z r gate=true:=by apply JZ;rw[<-aA ED, <-aA EY];omega
 have eU:lM s z r gate=t:=by unfold lM;rw[OV,aA ET];rfl
 have eT:mR s z r gate=false:=by unfold mR;rw[OV];rfl
 refine bodyPost_ret (v:=.tuple #[nY t,.bool false]) (by simp[results,Tryz.results86,go_sem,p0,p1,p2,p3,p4,p5,p6]) rfl ⟨by rw[eU,eT],aA K4⟩
theorem KZ(s:St)(z r gate:Int)(w:World)(hs:s.Ok)(hz:R64 z)(hr:R64 r)(hg:R64 gate)(hd:¬offW s r<=0)(hp:¬dM gate (offW s r)<dM (offY s z) (offY s z)):Calls Tryz.prog 86 #[nY s,.int .i64 z,.int .i64 r,.int .i64 gate] w λe w'=>e=.returned (.tuple #[nY (lM s z r gate),.bool (mR s z r gate)])/\Below w.heap.size w w':=by
 obtain⟨y,ey⟩:∃y,y=offY s z:=⟨_,rfl⟩;obtain⟨d,ed⟩:∃d,d=offW s r:=⟨_,rfl⟩;rw[<-ed] at hd;rw[<-ed, <-ey] at hp;have EY:=aB ey;have ED:=aB ed;have RY:=aB (show R64 y by rw[ey];exact wJ _ _);have RD:=aB (show R64 d by rw[ed];exact nM _ _);clear ey ed;obtain⟨w1,e1,g1⟩:=F7 w s;have OK:=aB hs;have E1:=aB e1;have G1:=aB g1;have Rz:=aB hz;have Rr:=aB hr;have Rg:=aB hg;clear hs e1 g1 hz hr hg;go_enter Tryz.func86,Tryz.ntmps86
 go_wp2_with fail
 rw[<-aA E1];refine (MR _ _ z s.X _ (aA Rz) (aA OK).X (aA G1).rk).mono ?_;rintro e w2 ⟨rfl,h,k⟩;have G2:=aB ((aA G1).kept k h);clear h k G1;have c2:=(aA G2).src.c2;go_wp2_with fail
 clear c2;refine (xD _ _ s.P00 r _ (aA OK).P00 (aA Rr) (aA G2).rk).mono ?_;rintro e w3 ⟨rfl,h,k⟩;have G3:=aB ((aA G2).kept k h);clear h k G2;rw[show tO z s.X=y from (aA EY).symm,show jB s.P00 r=d from (aA ED).symm];have h1:¬d<1:=Yo;go_wp2_with fail
 refine (uO _ _ y y _ (aA RY) (aA RY) (aA G3).rk).mono ?_;rintro e w4 ⟨rfl,h,k⟩;have G4:=aB ((aA G3).kept k h);clear h k G3;go_wp2_with fail
 refine (uO _ _ gate d _ (aA Rg) (aA RD) (aA G4).rk).mono ?_;rintro e w5 ⟨rfl,h,k⟩;have G5:=aB ((aA G4).kept k h);clear h k G4;have c2:=(aA G5).src.c2;go_wp2_with fail
 clear c2;refine (UR _ _ s.P00 d _ (aA OK).P00 (aA RD) (aA G5).rk).mono ?_;rintro e w6 ⟨rfl,h,k⟩;have G6:=aB ((aA G5).kept k h);clear h k G5;have c3:=(aA G6).src.c3;go_wp2_with fail
 clear c3;refine (UR _ _ s.P01 d _ (aA OK).P01 (aA RD) (aA G6).rk).mono ?_;rintro e w7 ⟨rfl,h,k⟩;have G7:=aB ((aA G6).kept k h);clear h k G6;have c0:=(aA G7).src.c0;have c1:=(aA G7).src.c1;have c2:=(aA G7).src.c2;have c3:=(aA G7).src.c3;have c4:=(aA G7).src.c4;have c5:=(aA G7).src.c5;have c6:=(aA G7).src.c6;go_wp2_with fail
 clear c0 c1 c2 c3 c4 c5 c6;obtain⟨w8,e4,h⟩:=VN (aA G7);rw[<-e4];obtain⟨bn,ebn⟩:∃bn,bn=w7.heap.size:=⟨_,rfl⟩;rw[<-ebn] at h;rw[<-ebn];have G8:=aB h;clear e4 h ebn G7;have hS8:SAt w8.drew w.heap.size s:=(aA G8).g.src;refine dF (S:=λu=>SAt u w.heap.size s) [(0,false),(1,false),(2,false),(3,false),(4,false),(5,false),(6,true),(7,true),(8,false),(9,true)] [] Yl Yl ?_;iterate 6
  refine bB (v:=?_) rfl (λ_ _ _ h=>h) (by rfl) hS8 ?_ ?_
  rotate_left 1
  .intro wx hwx;have c0:=hwx.c0;have c1:=hwx.c1;have c2:=hwx.c2;have c3:=hwx.c3;have c4:=hwx.c4;clear hwx;go_simp<;>exact rfl
  go_frame
 refine aZ rfl (λK hK=>?_);go_simp
 have Gd:=aB (aA G8).drew;refine (uO _ _ (fH s.P00 d) y _ (qZ _ _) (aA RY) (aA Gd).g.rk).mono ?_;rintro e w9 ⟨rfl,h,k⟩;have G9:=aB ((aA Gd).kept k h);have hS9:=(aA G9).g.src;refine hK _ _ (λ_=>hS9) ?_;clear hK K hS8;clear h k G8 Gd;refine aZ rfl (λK hK=>?_);go_simp
 refine (xD _ _ s.X (dM (fH s.P00 d) y) _ (aA OK).X (kH _ _) (aA G9).g.rk).mono ?_;rintro e w10 ⟨rfl,h,k⟩;have G10:=aB ((aA G9).kept k h);have hS10:=(aA G10).g.src;refine hK _ _ (λ_=>hS10) ?_;clear hK K hS9;clear h k G9;iterate 1
  refine bB (v:=?_) rfl (λ_ _ _ h=>h) (by rfl) hS10 ?_ ?_
  rotate_left 1
  .intro wx hwx;have c0:=hwx.c0;have c1:=hwx.c1;have c2:=hwx.c2;have c3:=hwx.c3;have c4:=hwx.c4;clear hwx;go_simp<;>exact rfl
  go_frame
 obtain⟨w11,e4,h,k⟩:=(aA G10).nw.pX (jB s.X (dM (fH s.P00 d) y));have c:=(aA G10).nw.c0;have f:=(aA G10).nw.free 0;refine aZ rfl (λK hK=>?_);go_simp
 rw[<-e4];have G11:=aB ((aA G10).put k h);refine hK _ _ (λ_=>(aA G11).g.src) ?_;clear hK K e4 h k c f hS10 G10;refine fA ?_;go_wp2_with fail
 have hS11:SAt w11.drew w.heap.size s:=(aA G11).g.src;refine dF (S:=λu=>SAt u w.heap.size s) [(0,false),(1,false),(2,false),(3,false),(4,false),(5,false),(6,true),(7,true),(8,false),(9,true)] [] Yl Yl ?_;iterate 6
  refine bB (v:=?_) rfl (λ_ _ _ h=>h) (by rfl) hS11 ?_ ?_
  rotate_left 1
  .intro wx hwx;have c0:=hwx.c0;have c1:=hwx.c1;have c2:=hwx.c2;have c3:=hwx.c3;have c4:=hwx.c4;clear hwx;go_simp<;>exact rfl
  go_frame
 refine aZ rfl (λK hK=>?_);go_simp
 have Gd:=aB (aA G11).drew;refine (uO _ _ (fH s.P01 d) y _ (qZ _ _) (aA RY) (aA Gd).g.rk).mono ?_;rintro e w12 ⟨rfl,h,k⟩;have G12:=aB ((aA Gd).kept k h);have hS12:=(aA G12).g.src;refine hK _ _ (λ_=>hS12) ?_;clear hK K hS11;clear h k G11 Gd;refine aZ rfl (λK hK=>?_);go_simp
 refine (xD _ _ s.V (dM (fH s.P01 d) y) _ (aA OK).V (kH _ _) (aA G12).g.rk).mono ?_;rintro e w13 ⟨rfl,h,k⟩;have G13:=aB ((aA G12).kept k h);have hS13:=(aA G13).g.src;refine hK _ _ (λ_=>hS13) ?_;clear hK K hS12;clear h k G12;iterate 1
  refine bB (v:=?_) rfl (λ_ _ _ h=>h) (by rfl) hS13 ?_ ?_
  rotate_left 1
  .intro wx hwx;have c0:=hwx.c0;have c1:=hwx.c1;have c2:=hwx.c2;have c3:=hwx.c3;have c4:=hwx.c4;clear hwx;go_simp<;>exact rfl
  go_frame
 obtain⟨w14,e4,h,k⟩:=(aA G13).nw.pV (jB s.V (dM (fH s.P01 d) y));have c:=(aA G13).nw.c1;have f:=(aA G13).nw.free 1;refine aZ rfl (λK hK=>?_);go_simp
 rw[<-e4];have G14:=aB ((aA G13).put k h);refine hK _ _ (λ_=>(aA G14).g.src) ?_;clear hK K e4 h k c f hS13 G13;refine fA ?_;go_wp2_with fail
 have hS14:SAt w14.drew w.heap.size s:=(aA G14).g.src;refine dF (S:=λu=>SAt u w.heap.size s) [(0,false),(1,false),(2,false),(3,false),(4,false),(5,false),(6,false),(7,true),(8,true),(9,false),(10,true)] [] Yl Yl ?_;iterate 7
  refine bB (v:=?_) rfl (λ_ _ _ h=>h) (by rfl) hS14 ?_ ?_
  rotate_left 1
  .intro wx hwx;have c0:=hwx.c0;have c1:=hwx.c1;have c2:=hwx.c2;have c3:=hwx.c3;have c4:=hwx.c4;clear hwx;go_simp<;>exact rfl
  go_frame
 refine aZ rfl (λK hK=>?_);go_simp
 have Gd:=aB (aA G14).drew;refine (uO _ _ (fH s.P00 d) s.P00 _ (qZ _ _) (aA OK).P00 (aA Gd).g.rk).mono ?_;rintro e w15 ⟨rfl,h,k⟩;have G15:=aB ((aA Gd).kept k h);have hS15:=(aA G15).g.src;refine hK _ _ (λ_=>hS15) ?_;clear hK K hS14;clear h k G14 Gd;refine aZ rfl (λK hK=>?_);go_simp
 refine (MR _ _ s.P00 (dM (fH s.P00 d) s.P00) _ (aA OK).P00 (kH _ _) (aA G15).g.rk).mono ?_;rintro e w16 ⟨rfl,h,k⟩;have G16:=aB ((aA G15).kept k h);have hS16:=(aA G16).g.src;refine hK _ _ (λ_=>hS16) ?_;clear hK K hS15;clear h k G15;iterate 1
  refine bB (v:=?_) rfl (λ_ _ _ h=>h) (by rfl) hS16 ?_ ?_
  rotate_left 1
  .intro wx hwx;have c0:=hwx.c0;have c1:=hwx.c1;have c2:=hwx.c2;have c3:=hwx.c3;have c4:=hwx.c4;clear hwx;go_simp<;>exact rfl
  go_frame
 obtain⟨w17,e4,h,k⟩:=(aA G16).nw.pP00 (tO s.P00 (dM (fH s.P00 d) s.P00));have c:=(aA G16).nw.c2;have f:=(aA G16).nw.free 2;refine aZ rfl (λK hK=>?_);go_simp
 rw[<-e4];have G17:=aB ((aA G16).put k h);refine hK _ _ (λ_=>(aA G17).g.src) ?_;clear hK K e4 h k c f hS16 G16;refine fA ?_;go_wp2_with fail
 have hS17:SAt w17.drew w.heap.size s:=(aA G17).g.src;refine dF (S:=λu=>SAt u w.heap.size s) [(0,false),(1,false),(2,false),(3,false),(4,false),(5,false),(6,false),(7,true),(8,true),(9,false),(10,true)] [] Yl Yl ?_;iterate 7
  refine bB (v:=?_) rfl (λ_ _ _ h=>h) (by rfl) hS17 ?_ ?_
  rotate_left 1
  .intro wx hwx;have c0:=hwx.c0;have c1:=hwx.c1;have c2:=hwx.c2;have c3:=hwx.c3;have c4:=hwx.c4;clear hwx;go_simp<;>exact rfl
  go_frame
 refine aZ rfl (λK hK=>?_);go_simp
 have Gd:=aB (aA G17).drew;refine (uO _ _ (fH s.P00 d) s.P01 _ (qZ _ _) (aA OK).P01 (aA Gd).g.rk).mono ?_;rintro e w18 ⟨rfl,h,k⟩;have G18:=aB ((aA Gd).kept k h);have hS18:=(aA G18).g.src;refine hK _ _ (λ_=>hS18) ?_;clear hK K hS17;clear h k G17 Gd;refine aZ rfl (λK hK=>?_);go_simp
 refine (MR _ _ s.P01 (dM (fH s.P00 d) s.P01) _ (aA OK).P01 (kH _ _) (aA G18).g.rk).mono ?_;rintro e w19 ⟨rfl,h,k⟩;have G19:=aB ((aA G18).kept k h);have hS19:=(aA G19).g.src;refine hK _ _ (λ_=>hS19) ?_;clear hK K hS18;clear h k G18;iterate 1
  refine bB (v:=?_) rfl (λ_ _ _ h=>h) (by rfl) hS19 ?_ ?_
  rotate_left 1
  .intro wx hwx;have c0:=hwx.c0;have c1:=hwx.c1;have c2:=hwx.c2;have c3:=hwx.c3;have c4:=hwx.c4;clear hwx;go_simp<;>exact rfl
  go_frame
 obtain⟨w20,e4,h,k⟩:=(aA G19).nw.pP01 (tO s.P01 (dM (fH s.P00 d) s.P01));have c:=(aA G19).nw.c3;have f:=(aA G19).nw.free 3;refine aZ rfl (λK hK=>?_);go_simp
 rw[<-e4];have G20:=aB ((aA G19).put k h);refine hK _ _ (λ_=>(aA G20).g.src) ?_;clear hK K e4 h k c f hS19 G19;refine fA ?_;go_wp2_with fail
 have hS20:SAt w20.drew w.heap.size s:=(aA G20).g.src;refine dF (S:=λu=>SAt u w.heap.size s) [(0,false),(1,false),(2,false),(3,false),(4,false),(5,false),(6,false),(7,true),(8,true),(9,false),(10,true)] [] Yl Yl ?_;iterate 7
  refine bB (v:=?_) rfl (λ_ _ _ h=>h) (by rfl) hS20 ?_ ?_
  rotate_left 1
  .intro wx hwx;have c0:=hwx.c0;have c1:=hwx.c1;have c2:=hwx.c2;have c3:=hwx.c3;have c4:=hwx.c4;clear hwx;go_simp<;>exact rfl
  go_frame
 refine aZ rfl (λK hK=>?_);go_simp
 have Gd:=aB (aA G20).drew;refine (uO _ _ (fH s.P01 d) s.P01 _ (qZ _ _) (aA OK).P01 (aA Gd).g.rk).mono ?_;rintro e w21 ⟨rfl,h,k⟩;have G21:=aB ((aA Gd).kept k h);have hS21:=(aA G21).g.src;refine hK _ _ (λ_=>hS21) ?_;clear hK K hS20;clear h k G20 Gd;refine aZ rfl (λK hK=>?_);go_simp
 refine (MR _ _ s.P11 (dM (fH s.P01 d) s.P01) _ (aA OK).P11 (kH _ _) (aA G21).g.rk).mono ?_;rintro e w22 ⟨rfl,h,k⟩;have G22:=aB ((aA G21).kept k h);have hS22:=(aA G22).g.src;refine hK _ _ (λ_=>hS22) ?_;clear hK K hS21;clear h k G21;iterate 1
  refine bB (v:=?_) rfl (λ_ _ _ h=>h) (by rfl) hS22 ?_ ?_
  rotate_left 1
  .intro wx hwx;have c0:=hwx.c0;have c1:=hwx.c1;have c2:=hwx.c2;have c3:=hwx.c3;have c4:=hwx.c4;clear hwx;go_simp<;>exact rfl
  go_frame
 obtain⟨w23,e4,h,k⟩:=(aA G22).nw.pP11 (tO s.P11 (dM (fH s.P01 d) s.P01));have c:=(aA G22).nw.c4;have f:=(aA G22).nw.free 4;refine aZ rfl (λK hK=>?_);go_simp
 rw[<-e4];have G23:=aB ((aA G22).put k h);refine hK _ _ (λ_=>(aA G23).g.src) ?_;clear hK K e4 h k c f hS22 G22;refine fA ?_;obtain⟨w24,e4,h,k⟩:=(aA G23).nw.pM 0;have c:=(aA G23).nw.c6;have f:=(aA G23).nw.free 6;have G24:=aB ((aA G23).put k h);have E4:=aB e4;clear h k e4
 go_upto_region 16 with fail
 rw[<-aA E4];clear c f E4 G23;have rk0:=(aA G24).g.rk.cell0;obtain⟨w25,e4,h,k⟩:=(aA G24).nw.pB _;have c:=(aA G24).nw.c5;have f:=(aA G24).nw.free 5;have G25:=aB ((aA G24).put k h);have E4:=aB e4;clear h k e4
 go_upto_region 17 with fail
 rw[<-aA E4];clear c f E4 rk0 G24;have OV:pK s z r gate=false:=by apply OE<;>rw[<-aA ED]<;>first|(rw[<-aA EY];omega)|omega
 have eT:mR s z r gate=true:=by unfold mR;rw[OV];rfl
 have eU:lM s z r gate=takeS ((((s.bend (NK z s.X)).bend (zT s.P00 r)).bend (vD y y)).bend (vD gate d)) y d:=by unfold lM;rw[OV,aA EY,aA ED];rfl
 have EU:=aB eU;have ETT:=aB eT;clear OV eT eU;obtain⟨t,et⟩:∃t:St,t=takeS ((((s.bend (NK z s.X)).bend (zT s.P00 r)).bend (vD y y)).bend (vD gate d)) y d:=⟨_,rfl⟩;have N:=aB (show SAt w25 bn t by rw[et];exact (aA G25).nw);have c0:=(aA N).c0;have c1:=(aA N).c1;have c2:=(aA N).c2;have c3:=(aA N).c3;have c4:=(aA N).c4;have c5:=(aA N).c5;have c6:=(aA N).c6;have b0:=(aA G25).g.res.c0;have b1:=(aA G25).g.res.c1;have b2:=(aA G25).g.res.c2;have b3:=(aA G25).g.res.c3;have b4:=(aA G25).g.res.c4;have b5:=(aA G25).g.res.c5;have b6:=(aA G25).g.res.c6;have f0:=(aA G25).g.res.free 0;have f1:=(aA G25).g.res.free 1;have f2:=(aA G25).g.res.free 2;have f3:=(aA G25).g.res.free 3;have f4:=(aA G25).g.res.free 4;have f5:=(aA G25).g.res.free 5;have f6:=(aA G25).g.res.free 6;have ln:=(aA G25).lt;obtain⟨u,e4,h4,k4⟩:=(aA G25).g.res.put t;have E4:=aB e4;have H4:=aB h4;have K4:=aB (aF (aA G25).g.bel k4 Yo (aA G25).g.bel.size);have ET:=aB et;clear e4 h4 k4 et;go_wp2_with fail
 rw[<-aA E4];have p0:=(aA H4).c0;have p1:=(aA H4).c1;have p2:=(aA H4).c2;have p3:=(aA H4).c3;have p4:=(aA H4).c4;have p5:=(aA H4).c5;have p6:=(aA H4).c6;refine bodyPost_ret (v:=.tuple #[nY t,.bool true]) (by simp[results,Tryz.results86,go_sem,p0,p1,p2,p3,p4,p5,p6]) rfl ⟨by rw[aA EU,aA ETT,aA ET],aA K4⟩
theorem PW(s:St)(z r gate:Int)(w:World)(hs:s.Ok)(hz:R64 z)(hr:R64 r)(hg:R64 gate):Calls Tryz.prog 86 #[nY s,.int .i64 z,.int .i64 r,.int .i64 gate] w λe w'=>e=.returned (.tuple #[nY (lM s z r gate),.bool (mR s z r gate)])/\Below w.heap.size w w':=by
 by_cases hd:offW s r<=0
 .exact PG s z r gate w hs hz hr hg hd
 .by_cases hp:dM gate (offW s r)<dM (offY s z) (offY s z)
  .exact LP s z r gate w hs hz hr hg hd hp
  .exact KZ s z r gate w hs hz hr hg hd hp
theorem YL(s:St)(t:Tn)(z:Int)(w:World)(hs:s.Ok)(ht:t.Ok)(hz:R64 z):Calls Tryz.prog 47 #[nY s,tnV t,.int .i64 z] w λe w'=>e=.returned (.tuple #[nY (xR s t z),.bool (DC s t z)])/\Below w.heap.size w w':=by
 obtain⟨w1,e1,d1,g1,k1⟩:=KQ w s t;have OK:=aB hs;have OT:=aB ht;have RZ:=aB hz;have E1:=aB e1;have G1:=aB g1;have K1:=aB k1;have hS1:ST w.heap.size (w.heap.size+1) s t w1.drew:=d1.drew;clear hs ht hz e1 d1 g1 k1;go_enter Tryz.func47,Tryz.ntmps47
 go_wp2_with fail
 rw[<-aA E1];refine dF (S:=ST w.heap.size (w.heap.size+1) s t) [(0,false),(1,false),(2,false),(3,false),(4,false),(6,false),(7,false),(8,false),(9,false),(10,false),(5,true),(11,true),(12,false),(13,false),(14,true),(15,true)] [] Yl Yl ?_;iterate 10
  refine bB (v:=?_) rfl (λ_ _ _ h=>h) (by rfl) hS1 ?_ ?_
  rotate_left 1
  .intro wx hwx;have q0:=hwx.tn.c0;have q1:=hwx.tn.c1;have q2:=hwx.tn.c2;have q3:=hwx.tn.c3;have c0:=hwx.st.c0;have c1:=hwx.st.c1;have c2:=hwx.st.c2;have c3:=hwx.st.c3;have c4:=hwx.st.c4;have c5:=hwx.st.c5;have c6:=hwx.st.c6;clear hwx;go_simp<;>exact rfl
  go_frame
 refine aZ rfl (λK hK=>?_);go_simp
 refine (MK s t.Dt t.Q _ (aA OK) (aA OT).Dt (aA OT).Q).mono ?_;rintro e w2 ⟨rfl,k⟩;have hS2:=hS1.below k;refine hK _ _ (λ_=>hS2) ?_;have G2:=aB (SAt.below (w:=w1.drew) (aA G1) k);have K2:=aB ((aT (aA K1)).trans (k.mono (aA K1).size));clear hK K hS1 k G1 K1;refine aZ rfl (λK hK=>?_);go_simp
 refine (PW (pW s t.Dt t.Q) z t.R t.G _ (GQ (aA OK) _ _) (aA RZ) (aA OT).R (aA OT).G).mono ?_;rintro e w3 ⟨rfl,k⟩;have hS3:=hS2.below k;refine hK _ _ (λ_=>hS3) ?_;have G3:=aB ((aA G2).below k);have K3:=aB ((aA K2).trans (k.mono (aA K2).size));clear hK K hS2 k G2 K2;rw[show lM (pW s t.Dt t.Q) z t.R t.G=xR s t z from rfl,show mR (pW s t.Dt t.Q) z t.R t.G=DC s t z from rfl];obtain⟨p,ep⟩:∃p,p=xR s t z:=⟨_,rfl⟩;obtain⟨tk,ek⟩:∃tk,tk=DC s t z:=⟨_,rfl⟩;rw[<-ep, <-ek];have EP:=aB ep;have EK:=aB ek;clear ep ek;iterate 2
  refine bB (v:=?_) rfl (λ_ _ _ h=>h) (by rfl) hS3 ?_ ?_
  rotate_left 1
  .intro wx hwx;clear hwx;go_simp<;>exact rfl
  go_frame
 have b0:=(aA G3).c0;have b1:=(aA G3).c1;have b2:=(aA G3).c2;have b3:=(aA G3).c3;have b4:=(aA G3).c4;have b5:=(aA G3).c5;have b6:=(aA G3).c6;have f0:=(aA G3).free 0;have f1:=(aA G3).free 1;have f2:=(aA G3).free 2;have f3:=(aA G3).free 3;have f4:=(aA G3).free 4;have f5:=(aA G3).free 5;have f6:=(aA G3).free 6;obtain⟨w4,e4,h4,k4⟩:=(aA G3).put p;refine aZ rfl (λK hK=>?_);go_simp
 rw[<-e4];have hS4:=hS3.kept k4 Yo Yo;refine hK _ _ (λ_=>hS4) ?_;have G4:=aB h4;have K4:=aB (aF (aA K3) k4 Yo (aA K3).size);clear hK K b0 b1 b2 b3 b4 b5 b6 f0 f1 f2 f3 f4 f5 f6 e4 h4 k4 hS3 G3 K3;refine aZ rfl (λK hK=>?_);go_simp
 refine hK _ _ (λ_=>hS4) ?_;clear hK K hS4;refine fA ?_;go_wp2_with fail
 have p0:=(aA G4).c0;have p1:=(aA G4).c1;have p2:=(aA G4).c2;have p3:=(aA G4).c3;have p4:=(aA G4).c4;have p5:=(aA G4).c5;have p6:=(aA G4).c6;refine bodyPost_ret (v:=.tuple #[nY p,.bool tk]) (by simp[results,Tryz.results47,go_sem,p0,p1,p2,p3,p4,p5,p6]) rfl ⟨by rw[aA EP,aA EK],aA K4⟩
theorem aBf(ao:Option Addr)(cap:Nat)(l:List Int)(w:World)(hl:l.length<=64)(hf:∀i,R64 (gL l i))(hr:Rd w ao l.length (iF (gL l))):Calls Tryz.prog 46 #[.slice ao l.length cap] w λe w'=>∃E,e=.returned (.tuple #[.int .i64 (xM l),.int .i64 E])/\Below w.heap.size w w':=by
 rcases Nat.lt_or_ge l.length 1 with h|h
 .have e:l=[]:=List.length_eq_zero_iff.1 Yo;subst e;refine (PU ao 0 cap w (Or.inl Yo)).mono ?_;rintro e w' ⟨rfl,k⟩;exact⟨8,rfl,k⟩
 .refine (LM ao l.length cap (gL l) w h hl hf hr).mono ?_;rintro e w' ⟨m,hm,rfl,k⟩;have:=aAI h hl hm;rw[aEj] at this;subst this;exact⟨0,rfl,k⟩
theorem YW(x y z:Value)(w:World):(callFunc 47 #[x,y,z]).run Tryz.prog w=.ok (.enter 47 #[x,y,z]) w:=Yh
end Go.Proofs.YthimcecbgpamdaaGreat
