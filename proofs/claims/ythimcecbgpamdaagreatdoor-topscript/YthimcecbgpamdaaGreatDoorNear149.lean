import Derived.Test.YthimcecbgpamdaaGreatDoorNear177
import Derived.Test.YthimcecbgpamdaaGreatDoorIntMap
set_option maxHeartbeats 2000000
namespace Go.Proofs.YthimcecbgpamdaaGreatDoor
open Go.RowKit
def CoI(w:World)(v:Nat->Int)(b:Nat->Bool)(k:Nat)(W:World):Prop:=
 MI W (w.heap.size+1+1) k (λx=>(vk b v x k:Nat))/\B4 W (w.heap.size+1) b/\Below w.heap.size w W
theorem aMe(b:Nat->Bool)(v:Nat->Int)(k:Nat)(hb:b k=true)(x:Int):upZ (λx=>((vk b v x k:Nat):Int)) (v k) ((vk b v (v k) k:Nat)+1) x=((vk b v x (k+1):Nat):Int):=by
 unfold upZ;have e:vk b v x (k+1)=vk b v x k+if b k=true/\v k=x then 1 else 0:=rfl;by_cases h:x=v k
 .subst h;rw[if_pos rfl,e,if_pos ⟨hb,rfl⟩];omega
 .rw[if_neg h,e,if_neg (λh2=>h h2.2.symm)];rfl
theorem aMc(b:Nat->Bool)(v:Nat->Int)(k:Nat)(hb:b k=false)(x:Int):((vk b v x k:Nat):Int)=((vk b v x (k+1):Nat):Int):=by
 have e:vk b v x (k+1)=vk b v x k+if b k=true/\v k=x then 1 else 0:=rfl;rw[e,if_neg (λh=>by rw[hb] at h;cases h.1)];rfl
theorem RI(v:Nat->Int)(b:Nat->Bool)(w:World)(rv:∀i,R64 (v i)):Calls Tryz.prog 187 #[xA v,wR b] w λe w'=>∃m,w.heap.size<=m/\e=.returned (.tuple #[.map (some m),.int .i64 (ti b 4:Nat)])/\MI w' m 4 (λx=>(vk b v x 4:Nat))/\Below w.heap.size w w':=by
 obtain⟨w1,e1,mA,mB,k1,s1⟩:=aCt w v b;have hmm:=@run_makeMap Tryz.prog;have mM:=MI.new w1;obtain⟨w2,e2⟩:∃w2,w2=w1.alloc (.map #[] 0):=⟨_,rfl⟩;rw[<-e2,s1] at mM;have k2:Below w1.heap.size w1 w2:=by rw[e2];exact bK w1 _
 have mA:=mA.below k2;have h0:CoI w v b 0 w2:=⟨mM.congr (λ_ _=>rfl),mB.below k2,k1.trans (k2.mono k1.size)⟩;have c0:=mA.cell (show 0<4 by omega);have c1:=mA.cell (show 1<4 by omega);have c2:=mA.cell (show 2<4 by omega);have c3:=mA.cell (show 3<4 by omega);have E1:=aB e1;have E2:=aB e2;have H0:=aB h0;have S1:=aB s1;have RV:=aB rv;clear e1 e2 mA mB k1 k2 mM s1 h0 rv;unfold xA wR;go_enter Tryz.func187,Tryz.ntmps187
 go_wp2_with fail
 rw[<-aA E1, <-aA E2];go_wp2_with fail
 go_loopw [7,12] (λts is wr=>∃k:Nat,k<=4/\ts=.int .i64 (ti b k:Nat)/\is=.int .i64 (k:Nat)/\CoI w v b k wr) (λ_ is _=>4-(intOf is).toNat)
 case atStart=>exact⟨0,Yo,rfl,rfl,aA H0⟩
 case round=>
  obtain⟨k,hk,rfl,rfl,hI⟩:=hrel
  rename World=>wr
  by_cases hin:k<4
  .have cb:=hI.2.1.cell hin;have hin':(k:Int)<4:=Yo;have hn:ti b k<=4:=Nat.le_trans (LQ b k) Yo;have hx:=zX v hin wr;have T:=aB (show ti b (k+1)=ti b k+if b k=true then 1 else 0 from rfl);by_cases hb:b k=true
   .have hq:vk b v (v k) k<=4:=Nat.le_trans (YF b v (v k) k) hk;have hl:=hI.1.look (aA RV k) Tryz.underlying226;obtain⟨w3,hp,m3,k3⟩:=hI.1.put (k:=v k) (v:=(vk b v (v k) k:Nat)+1) (aA RV k) (by unfold R64;omega) Yo Tryz.underlying226;have H3:=aB (show CoI w v b (k+1) w3 from ⟨m3.congr (λx _=>aMe b v k hb x),hI.2.1.kept k3 Yo,aF hI.2.2 k3 Yo hI.2.2.size⟩);have T2:=aB (show ti b (k+1)=ti b k+1 by rw[aA T,if_pos hb]);rw[hb] at cb;clear hI m3 k3 T;generalize vk b v (v k) k=q at*;generalize ti b k=t0 at*;generalize v k=x at*;go_wp2_with fail
    go_roundw
    case rel=>exact⟨k+1,Yo,by rw[aA T2];go_num,by go_num,aA H3⟩
    case measure=>simp[intOf]<;>omega
   .have hb':b k=false:=by simpa using hb
    have H3:=aB (show CoI w v b (k+1) wr from ⟨(hI.1.mono Yo).congr (λx _=>aMc b v k hb' x),hI.2.1,hI.2.2⟩);have T2:=aB (show ti b (k+1)=ti b k by rw[aA T,if_neg hb];rfl);rw[hb'] at cb;clear hI T;go_wp2_with fail
    go_roundw
    case rel=>exact⟨k+1,Yo,by rw[aA T2],by go_num,aA H3⟩
    case measure=>simp[intOf]<;>omega
  .have e9:k=4:=Yo;subst e9;rw[show ((4:Nat):Int)=4 from rfl];go_wp2_with fail
   refine bodyPost_ret (v:=.tuple #[.map (some (w.heap.size+1+1)),.int .i64 (ti b 4:Nat)]) (by simp[results,Tryz.results187,go_sem]) rfl ⟨_,Yo,rfl,hI.1,hI.2.2⟩
def LeI(w:World)(v:Nat->Int)(b:Nat->Bool)(m:Nat)(W:World):Prop:=
 MI W m 4 (λx=>(vk b v x 4:Nat))/\B4 W (w.heap.size+1) b/\Below w.heap.size w W
variable{b:Nat->Bool}{m:Nat}{w:World}
theorem LeI.drew{W:World}{v:Nat->Int}(h:LeI w v b m W):LeI w v b m W.drew:=⟨h.1.same rfl,h.2.1,aY h.2.2⟩
def YP(v:Nat->Int)(b:Nat->Bool)(k:Nat)(X:Int)(c:Nat):Prop:=(ti b k=0/\c=0)\/(ti b k≠0/\c=vk b v X 4)
variable{f:Operand->Value}
theorem aBJ{o:Oper}(x y:Operand)(ho:o.op=.lookup 226 x y false){n:Nat}{g:Int->Int}{u:Int}(hx:f x=.map (some m))(hy:f y=.int .i64 u)(hM:MI w m n g)(hu:R64 u):(execOp f o).run Tryz.prog w=.ok (.value (.int .i64 (g u))) w:=by
 have hl:=hM.look hu Tryz.underlying226;unfold execOp;rw[ho];dsimp only;rw[hx,hy];go_simp
theorem SN(v:Nat->Int)(b:Nat->Bool)(m:Nat)(w:World)(rv:∀i,R64 (v i))(hM:MI w m 4 (λx=>(vk b v x 4:Nat))):Calls Tryz.prog 188 #[xA v,wR b,.map (some m)] w λe w'=>∃X,qZ v b 4 X/\e=.returned (.int .i64 X)/\Below w.heap.size w w':=by
 obtain⟨w1,e1,mA,mB,k1,s1⟩:=aCt w v b;have h0:LeI w v b m w1:=⟨hM.below k1,mB,k1⟩;have c0:=mA.cell (show 0<4 by omega);have c1:=mA.cell (show 1<4 by omega);have c2:=mA.cell (show 2<4 by omega);have c3:=mA.cell (show 3<4 by omega);have E1:=aB e1;have H0:=aB h0;have RV:=aB rv;clear e1 mA mB k1 s1 h0 rv hM;unfold xA wR;go_enter Tryz.func188,Tryz.ntmps188
 go_wp2_with fail
 rw[<-aA E1];go_wp2_with fail
 go_loopw [7,8,12] (λxs cs is wr=>∃(k c:Nat) (X:Int),k<=4/\xs=.int .i64 X/\cs=.int .i64 (c:Nat)/\is=.int .i64 (k:Nat)/\qZ v b k X/\YP v b k X c/\c<=4/\LeI w v b m wr) (λ_ _ is _=>4-(intOf is).toNat)
 case atStart=>exact⟨0,0,0,Yo,rfl,rfl,rfl,JI v b,Or.inl ⟨rfl,rfl⟩,Yo,aA H0⟩
 case round=>
  obtain⟨k,c,X,hk,rfl,rfl,rfl,hV,hC,hc4,hI⟩:=hrel
  rename World=>wr
  by_cases hin:k<4
  .have cb:=hI.2.1.cell hin;have hin':(k:Int)<4:=Yo;have hx:=zX v hin wr;have hl:=hI.1.look (aA RV k) Tryz.underlying226;have hq:vk b v (v k) 4<=4:=YF b v (v k) 4;have HV:=aB hV;have HC:=aB hC;have HI:=aB hI;clear hV hC hI;by_cases hb:b k=true
   .have hp:0<vk b v (v k) 4:=aMd hin hb;have T:=aB (show ti b (k+1)≠0 from Nat.pos_iff_ne_zero.1 (aLP (Nat.lt_succ_self k) hb));by_cases hd:c<vk b v (v k) 4
    .have D:=aB (show qZ v b (k+1) (v k) from NY (aA HV) hb (by
      rcases aA HC with ⟨h,_⟩|⟨_,h⟩
      .exact Or.inr h
      .left;omega))
     have D2:=aB (show YP v b (k+1) (v k) (vk b v (v k) 4) from Or.inr ⟨aA T,rfl⟩);have RVK:=aB (aA RV k);rw[hb] at cb;have hd':(c:Int)<((vk b v (v k) 4:Nat):Int):=Yo;go_wp2_with fail
     clear cb hx hl;refine wp_leaves (λa0 a' w'=>LeI w v b m w'/\a'=((((((a0.put (some 26) (.int .i64 (v k))).put (some 27) (.map (some m))).put (some 28) (.int .i64 (v k))).put (some 29) (.int .i64 (vk b v (v k) 4:Nat))).put (some 7) (.int .i64 (v k))).put (some 8) (.int .i64 (vk b v (v k) 4:Nat)))) ?reg ?rest
     case reg=>
      intro A eA;have b2:A.eval (.tmp 2)=.map (some m):=by rw[eA];rfl
      have b10:A.eval (.tmp 10)=.int .i64 (v k):=by rw[eA];rfl
      have hs:32<=A.tmps.size:=by rw[eA];exact Xu rfl
      clear eA;have hS:=(aA HI).drew;refine vV (S:=LeI w v b m) (.rd 0 (.rd 1 (.rd 2 (.rd 3 (.rd 4 (.rd 5 .fin)))))) [] Yl Yl ?_;refine bP (v:=.int .i64 (v k)) rfl Yn Yw hS (λwx _=>eG (.tmp 10) rfl b10 wx) ?_;show SeqI _ _ _ _ _ _ (Act.put _ (some 26) _) _
      refine bP (v:=.map (some m)) rfl Yn Yw hS (λwx _=>eG (.tmp 2) rfl (Ex b2) wx) ?_;show SeqI _ _ _ _ _ _ (Act.put _ (some 27) _) _
      refine bP (v:=.int .i64 (v k)) rfl Yn Yw hS (λwx _=>eG (.tmp 10) rfl (Ex (Ex b10)) wx) ?_;show SeqI _ _ _ _ _ _ (Act.put _ (some 28) _) _
      refine bP (v:=.int .i64 (vk b v (v k) 4:Nat)) rfl Yn Yw hS (λwx hx=>aBJ (.tmp 27) (.tmp 28) rfl (Ex Es) Es hx.1 (aA RVK)) ?_;show SeqI _ _ _ _ _ _ (Act.put _ (some 29) _) _
      refine bP (v:=.int .i64 (v k)) rfl Yn Yw hS (λwx _=>mW (.tmp 26) rfl (Ex (Ex (Ex Et))) wx) ?_;show SeqI _ _ _ _ _ _ (Act.put _ (some 7) _) _
      refine bP (v:=.int .i64 (vk b v (v k) 4:Nat)) rfl Yn Yw hS (λwx _=>mW (.tmp 29) rfl (Ex Es) wx) ?_;show SeqI _ _ _ _ _ _ (Act.put _ (some 8) _) _
      exact wF ⟨rfl,hS,rfl⟩
     case rest=>
      rintro a' w2 ⟨hI2,rfl⟩;have H2:=aB hI2;clear hI2
      go_frame
      go_wp2_with fail
      go_roundw
      case rel=>exact⟨k+1,_,v k,Yo,rfl,rfl,by go_num,aA D,aA D2,hq,aA H2⟩
      case measure=>simp[intOf]<;>omega
    .have D:=aB (show qZ v b (k+1) X from JH (aA HV) (by
      rcases aA HC with ⟨h,h2⟩|⟨_,h⟩
      .omega
      .omega) (by
      rcases aA HC with ⟨h,h2⟩|⟨h,_⟩
      .omega
      .exact h))
     have D2:=aB (show YP v b (k+1) X c from Or.inr ⟨aA T,by
      rcases aA HC with ⟨h,h2⟩|⟨_,h⟩
      .omega
      .exact h⟩)
     rw[hb] at cb;have hd':¬(c:Int)<((vk b v (v k) 4:Nat):Int):=Yo;go_wp2_with fail
     go_roundw
     case rel=>exact⟨k+1,c,X,Yo,rfl,rfl,by go_num,aA D,aA D2,hc4,aA HI⟩
     case measure=>simp[intOf]<;>omega
   .have hb':b k=false:=by simpa using hb
    have D:=aB (isV_out (aA HV) hb');have D2:=aB (show YP v b (k+1) X c by
     have e:ti b (k+1)=ti b k:=by show ti b k+_=_;rw[if_neg hb];rfl
     unfold YP;rw[e];exact aA HC)
    rw[hb'] at cb;go_wp2_with fail
    go_roundw
    case rel=>exact⟨k+1,c,X,Yo,rfl,rfl,by go_num,aA D,aA D2,hc4,aA HI⟩
    case measure=>simp[intOf]<;>omega
  .have e9:k=4:=Yo;subst e9;rw[show ((4:Nat):Int)=4 from rfl];go_wp2_with fail
   go_ret
   exact⟨X,hV,rfl,hI.2.2⟩
theorem aFR(w:World)(v:Nat->Int)(b:Nat->Bool):∃w1,w1=(((w.alloc (.cells #[.int .i64 (v 0),.int .i64 (v 1),.int .i64 (v 2),.int .i64 (v 3)] 34)).alloc (.cells #[.bool (b 0),.bool (b 1),.bool (b 2),.bool (b 3)] 33)).alloc (.cells #[.int .i64 0,.bool false,.slice none 0 0] 41))/\F4 w1 w.heap.size v/\B4 w1 (w.heap.size+1) b/\VdAt w1 (w.heap.size+1+1) 0 false (.slice none 0 0)/\Below w.heap.size w w1/\w1.heap.size=w.heap.size+1+1+1:=by
 obtain⟨u,eu,mu,ku,su⟩:=NB w v;obtain⟨x,ex,mx,kx,sx⟩:=LZ u b;obtain⟨y,ey,my,ky,sy⟩:=BP x 0 false (.slice none 0 0);subst eu;subst ex;rw[su] at mx;rw[sx,su] at my;refine⟨y,ey,(mu.below kx).below ky,mx.below ky,my,?_,Yo⟩;exact (ku.trans (kx.mono Yo)).trans (ky.mono Yo)
theorem KO(k:Nat)(v:Nat->Int)(X:Int)(h:0<ti b 4):Value.bool (decide (0<ti b 4/\v k=X))=Value.bool (v k==X):=by
 congr 1
 by_cases e:v k=X
 .simp[e,h]
 .simp[e]
def VeI(w:World)(v:Nat->Int)(b:Nat->Bool)(X:Int)(S:Bool)(g:Nat->Bool)(W:World):Prop:=
 VdAt W (w.heap.size+1+1+1+1) X S (.slice (some ⟨w.heap.size+1+1+1,0,none⟩) 4 4)/\Vh 4 W (w.heap.size+1+1+1) 4 4 (tF g)/\F4 W w.heap.size v/\B4 W (w.heap.size+1) b/\VdAt W (w.heap.size+1+1) 0 false (.slice none 0 0)/\Below w.heap.size w W/\w.heap.size+1+1+1+1+1<=W.heap.size
section
variable {w W W':World} {v:Nat->Int} {b:Nat->Bool} {X:Int} {S:Bool} {g:Nat->Bool}
theorem VeI.under(h:VeI w v b X S g W)(k:Below (w.heap.size+1+1+1+1+1) W W'):VeI w v b X S g W':=
 ⟨h.1.under k Yo,h.2.1.same (k.block _ Yo),h.2.2.1.under k Yo,h.2.2.2.1.under k Yo,h.2.2.2.2.1.under k Yo,h.2.2.2.2.2.1.trans (k.mono Yo),Nat.le_trans h.2.2.2.2.2.2 k.size⟩
theorem VeI.put{X':Int}{S':Bool}(h:VeI w v b X S g W)(m:VdAt W' (w.heap.size+1+1+1+1) X' S' (.slice (some ⟨w.heap.size+1+1+1,0,none⟩) 4 4))(k:Kept (w.heap.size+1+1+1+1) W W'):VeI w v b X' S' g W':=
 ⟨m,h.2.1.kept k Yo,h.2.2.1.kept k Yo,h.2.2.2.1.kept k Yo,h.2.2.2.2.1.kept k Yo,aF h.2.2.2.2.2.1 k Yo h.2.2.2.2.2.1.size,Nat.le_trans h.2.2.2.2.2.2 k.size⟩
theorem VeI.set(h:VeI w v b X S g W)(i:Nat)(x:Bool):VeI w v b X S (λj=>if j=i then x else g j) (W.setCell ⟨w.heap.size+1+1+1,i,none⟩ (.bool x)):=by
 have k:=bI W (w.heap.size+1+1+1) i (.bool x);refine⟨h.1.kept k Yo,Vh.congr (Vh.set h.2.1 i (.bool x)) (λj _=>?_),h.2.2.1.kept k Yo,h.2.2.2.1.kept k Yo,h.2.2.2.2.1.kept k Yo,aF h.2.2.2.2.2.1 k Yo h.2.2.2.2.2.1.size,Nat.le_trans h.2.2.2.2.2.2 k.size⟩;unfold eQ tF;by_cases e:j=i
 .rw[if_pos e];show _=Value.bool (if j=i then x else g j);rw[if_pos e]
 .rw[if_neg e];show _=Value.bool (if j=i then x else g j);rw[if_neg e]
theorem VeI.congr{g':Nat->Bool}(h:VeI w v b X S g W)(e:∀i,g i=g' i):VeI w v b X S g' W:=by rw[<-funext e];exact h
end
theorem aKQ:(Tryz.prog.info? 4).map (λi=>(i.zero,i.size,i.bytes))=some (some (.bool false),1,1):=Yl
theorem aLd(w:World):∃w',(Instr.makeSlice 39 (.int .i64 4) (.int .i64 4)).run Tryz.prog w=.ok (.slice (some ⟨w.heap.size,0,none⟩) 4 4) w'/\Vh 4 w' w.heap.size 4 4 (tF (λ_=>false))/\Below w.heap.size w w'/\w'.heap.size=w.heap.size+1:=by
 obtain⟨i0,hi,hz0,hz1,hz2⟩:=info_parts aKQ;have hrun:=run_make (P:=Tryz.prog) w 39 4 i0 (.bool false) Tryz.underlying39 hi hz0 .i64 .i64 (4:Nat) (4:Nat) Yo Yo (by rw[hz2];omega) Yo;rw[hz1] at hrun;simp only[Int.toNat_natCast,Nat.mul_one] at hrun;exact⟨_,hrun,Vh.made w 4 (.bool false) 4 Ym,bK _ _,dG _ _⟩
set_option maxRecDepth 100000 in
theorem aJH:aNo 128:=by
 intro v b w rv;obtain⟨w1,e1,mA,mB,mC,k1,s1⟩:=aFR w v b;obtain⟨w2,hmk,m2,k2,s2⟩:=aLd w1;obtain⟨w3,e3,m3,k3,s3⟩:=BP w2 0 false (.slice (some ⟨w1.heap.size,0,none⟩) 4 4);rw[s1] at m2 m3 hmk;rw[s2,s1] at m3;have h3:VeI w v b 0 false (λ_=>false) w3:=⟨m3,m2.below k3,(mA.below k2).below k3,(mB.below k2).below k3,(mC.below k2).below k3,(k1.trans (k2.mono k1.size)).trans (k3.mono Yo),Yo⟩;rw[s1] at e3;have S1:=aB s1;have S2:=aB s2;have c0:=h3.2.2.1.cell (show 0<4 by omega);have c1:=h3.2.2.1.cell (show 1<4 by omega);have c2:=h3.2.2.1.cell (show 2<4 by omega);have c3:=h3.2.2.1.cell (show 3<4 by omega);have b0:=h3.2.2.2.1.cell (show 0<4 by omega);have b1:=h3.2.2.2.1.cell (show 1<4 by omega);have b2:=h3.2.2.2.1.cell (show 2<4 by omega);have b3:=h3.2.2.2.1.cell (show 3<4 by omega);have hs2:w2.heap.size=w.heap.size+1+1+1+1:=Yo;have E1:=aB e1;have RV:=aB rv;have E3:=aB e3;have H3:=aB h3;clear e1 rv e3 h3 mA mB mC m2 m3 k1 k2 k3 s1 s2 s3;have CT:=RI v b w3 (aA RV);unfold xA wR at CT;rw[aA E3] at c0 c1 c2 c3 b0 b1 b2 b3;unfold xA wR;go_enter Tryz.func128,Tryz.ntmps128
 go_wp2_with fail
 rw[<-aA E1,hmk];go_wp2_with fail
 rw[<-aA E3] at c0 c1 c2 c3 b0 b1 b2 b3 ⊢;refine CT.mono ?_;rintro e w4 ⟨m,hm,rfl,hM,k4⟩;have h4:=(aA H3).under (k4.mono (aA H3).2.2.2.2.2.2);have H4:=aB h4;have HM:=aB hM;have HMS:=aB (Nat.le_trans (aA H3).2.2.2.2.2.2 hm);have d0:=h4.1.cell0;have d1:=h4.1.cell1;have d2:=h4.1.cell2;have r0:=h4.2.2.2.2.1.cell0;have r1:=h4.2.2.2.2.1.cell1;have r2:=h4.2.2.2.2.1.cell2;have g0:=h4.2.2.2.2.1.free 0;have g1:=h4.2.2.2.2.1.free 1;have g2:=h4.2.2.2.2.1.free 2;clear c0 c1 c2 c3 b0 b1 b2 b3 CT E3 E1 hmk hs2 h4 hM hm k4 H3;by_cases ht:ti b 4=0
 .rw[ht];rw[show ((0:Nat):Int)=0 from rfl];obtain⟨w5,e5,m5,k5⟩:=(aA H4).2.2.2.2.1.put 0 false (.slice (some ⟨w.heap.size+1+1+1,0,none⟩) 4 4);have p0:=m5.cell0;have p1:=m5.cell1;have p2:=m5.cell2;have E5:=aB e5;have K5:=aB (aF (aA H4).2.2.2.2.2.1 k5 Yo (aA H4).2.2.2.2.2.1.size);have O5:=aB (show w5.ownsRow w.heap.size 4 1 (.slice (some ⟨w.heap.size+1+1+1,0,none⟩) 4 4) 4 (rowV (tF (QO v b 0)) 4) from Vh.owns (Vh.congr ((aA H4).2.1.kept k5 Yo) (λi _=>by unfold tF QO;rw[ht];simp)) Yo);have HT:=aB ht;clear e5 m5 k5 ht;go_wp2_with fail
  rw[<-aA E5];refine bodyPost_ret (v:=.agg #[.int .i64 0,.bool false,.slice (some ⟨w.heap.size+1+1+1,0,none⟩) 4 4]) (by simp[results,Tryz.results128,go_sem,p0,p1,p2]) rfl ⟨0,_,Or.inl ⟨aA HT,rfl⟩,by unfold QP;rw[aA HT];rfl,aA O5,aA K5⟩
 .have ht':((ti b 4:Nat):Int)≠0:=Yo;have te:(((ti b 4:Nat):Int)==0)=false:=by simp;omega
  have h4:=aA H4;have c0:=h4.2.2.1.cell (show 0<4 by omega);have c1:=h4.2.2.1.cell (show 1<4 by omega);have c2:=h4.2.2.1.cell (show 2<4 by omega);have c3:=h4.2.2.1.cell (show 3<4 by omega);have b0:=h4.2.2.2.1.cell (show 0<4 by omega);have b1:=h4.2.2.2.1.cell (show 1<4 by omega);have b2:=h4.2.2.2.1.cell (show 2<4 by omega);have b3:=h4.2.2.2.1.cell (show 3<4 by omega);have CL:=SN v b m w4 (aA RV) (aA HM);unfold xA wR at CL;clear h4;go_wp2_with fail
  refine CL.mono ?_;rintro e w5 ⟨X,hV,rfl,k5⟩;have rX:R64 X:=by
   rcases hV with ⟨h,_⟩|⟨i,_,_,h,_⟩
   .exact absurd h ht
   .rw[h];exact aA RV i
  have h5:=(aA H4).under (k5.mono (aA H4).2.2.2.2.2.2);have M5:=(aA HM).below k5;obtain⟨w6,e6,m6,k6⟩:=h5.1.put0 X;have h6:=h5.put m6 k6;have M6:=M5.kept k6 (by have:=aA HMS;omega);have hlk:=M6.look rX Tryz.underlying226;have hq:vk b v X 4<=4:=YF b v X 4;have hn:ti b 4<=4:=LQ b 4;have es:QP v b X=decide (((ti b 4:Nat):Int)<2*((vk b v X 4:Nat):Int)):=by unfold QP;rw[decide_eq_decide];omega
  obtain⟨w7,e7,m7,k7⟩:=m6.put1 (decide (((ti b 4:Nat):Int)<2*((vk b v X 4:Nat):Int)));have h7:=h6.put m7 k7;have t0:=h5.1.cell0;have u0:=h5.1.free 0;have x0:=h6.1.cell0;have x1:=h6.1.cell1;have x2:=h6.1.free 1;have y0:=h7.2.2.1.cell (show 0<4 by omega);have y1:=h7.2.2.1.cell (show 1<4 by omega);have y2:=h7.2.2.1.cell (show 2<4 by omega);have y3:=h7.2.2.1.cell (show 3<4 by omega);have E6:=aB e6;have E7:=aB e7;have H7:=aB h7;have ES:=aB es;have HV:=aB hV;have HT:=aB (show 0<ti b 4 by omega);rw[e7,e6] at y0 y1 y2 y3;rw[e6] at hlk x0 x1 x2;clear c0 c1 c2 c3 b0 b1 b2 b3 d0 d1 d2 r0 r1 r2 g0 g1 g2 CL hV k5 h5 M5 m6 k6 h6 M6 m7 k7 h7 e6 e7 es ht ht' te rX;go_wp2_with fail
  rw[<-aA E6, <-aA E7];generalize decide (((ti b 4:Nat):Int)<2*((vk b v X 4:Nat):Int))=SV at*;clear t0 u0 x0 x1 x2 y0 y1 y2 y3 hlk E6 E7
  go_loopw [35] (λis wr=>∃k:Nat,k<=4/\is=.int .i64 (k:Nat)/\VeI w v b X SV (λi=>decide (i<k)&&(v i==X)) wr) (λis _=>4-(intOf is).toNat)
  case atStart=>exact⟨0,Yo,rfl,(aA H7).congr (λi=>by simp)⟩
  case round=>
   obtain⟨k,hk,rfl,hI⟩:=hrel
   rename World=>wr
   by_cases hin:k<4
   .have hin':(k:Int)<4:=Yo;have hx:=zX v hin wr;have d0:=hI.1.cell0;have d2:=hI.1.cell2;have ck:=hI.2.1.cell hin;have fk:=hI.2.1.free k;unfold tF at ck;obtain⟨w8,e8⟩:∃w8,w8=wr.setCell ⟨w.heap.size+1+1+1,k,none⟩ (.bool (v k==X)):=⟨_,rfl⟩;have H8:=hI.set k (v k==X);rw[<-e8] at H8;have H9:=aB (H8.congr (g':=λi=>decide (i<k+1)&&(v i==X)) (λi=>by
     by_cases e:i=k
     .subst e;simp
     .rw[if_neg e,show decide (i<k)=decide (i<k+1) by rw[decide_eq_decide];omega]))
    have E8:=aB e8;clear e8 H8 hI;go_wp2_with fail
    rw[<-aA E8];go_wp2_with fail
    go_roundw
    case rel=>exact⟨k+1,Yo,by go_num,aA H9⟩
    case measure=>simp[intOf]<;>omega
   .have e9:k=4:=Yo;subst e9;rw[show ((4:Nat):Int)=4 from rfl];have d0:=hI.1.cell0;have d1:=hI.1.cell1;have d2:=hI.1.cell2;have r0:=hI.2.2.2.2.1.cell0;have r1:=hI.2.2.2.2.1.cell1;have r2:=hI.2.2.2.2.1.cell2;have g0:=hI.2.2.2.2.1.free 0;have g1:=hI.2.2.2.2.1.free 1;have g2:=hI.2.2.2.2.1.free 2;obtain⟨w8,e8,m8,k8⟩:=hI.2.2.2.2.1.put X SV (.slice (some ⟨w.heap.size+1+1+1,0,none⟩) 4 4);have p0:=m8.cell0;have p1:=m8.cell1;have p2:=m8.cell2;have K8:=aB (aF hI.2.2.2.2.2.1 k8 Yo hI.2.2.2.2.2.1.size);have O8:=aB (show w8.ownsRow w.heap.size 4 1 (.slice (some ⟨w.heap.size+1+1+1,0,none⟩) 4 4) 4 (rowV (tF (QO v b X)) 4) from Vh.owns (Vh.congr (hI.2.1.kept k8 Yo) (λi hi=>by
     have:=KO i v X (aA HT);unfold tF QO;rw[this];simp[hi])) Yo)
    have E8:=aB e8;clear e8 m8 k8 hI;go_wp2_with fail
    rw[<-aA E8];refine bodyPost_ret (v:=.agg #[.int .i64 X,.bool SV,.slice (some ⟨w.heap.size+1+1+1,0,none⟩) 4 4]) (by simp[results,Tryz.results128,go_sem,p0,p1,p2]) rfl ⟨X,_,aA HV,by rw[aA ES];rfl,aA O8,aA K8⟩
theorem yQ:aNe 280:=by
 intro r w;obtain⟨w1,e1,m1,k1,z1⟩:=uR w r;have p0:=m1.inn (i:=0) Yo;have p1:=m1.inn (i:=1) Yo;have p2:=m1.inn (i:=2) Yo;have p3:=m1.inn (i:=3) Yo;rw[e1] at p0 p1 p2 p3;have E1:=aB e1;have K1:=aB k1;clear e1 m1 k1 z1;unfold gK;go_enter Tryz.func280,Tryz.ntmps280
 go_wp2_with fail
 rw[<-aA E1];clear p0 p1 p2 p3
 go_loopw [3,8] (λns is wr=>w1=wr/\∃i:Nat,is=.int .i64 i/\i<=4/\ns=.int .i64 (cn r.I i:Nat)) (λ_ is _=>4-(intOf is).toNat)
 case atStart=>exact⟨rfl,0,rfl,Yo,rfl⟩
 case round=>
  obtain⟨rfl,i,rfl,hi,rfl⟩:=hrel;have hn:cn r.I i<=i:=LG _ _;by_cases hin:i<4
  .have hin':(i:Int)<4:=Yo;have at_:=Z7 r.I hin;have S:=aB (show cn r.I (i+1)=cn r.I i+if r.I i=true then 1 else 0 from rfl)
   cases hb:r.I i with
   |true=>
    rw[hb] at at_;have T:=aB (show cn r.I (i+1)=cn r.I i+1 by rw[aA S,hb,if_pos rfl]);clear hb;go_wp2_with fail
    go_roundw
    case rel=>exact⟨trivial,i+1,by go_num,Yo,by rw[aA T];go_num⟩
    case measure=>simp[intOf]<;>omega
   |false=>
    rw[hb] at at_;have T:=aB (show cn r.I (i+1)=cn r.I i by rw[aA S,hb,if_neg Yc];rfl);clear hb;go_wp2_with fail
    go_roundw
    case rel=>exact⟨trivial,i+1,by go_num,Yo,by rw[aA T]⟩
    case measure=>simp[intOf]<;>omega
  .have e9:i=4:=Yo;subst e9;rw[show ((4:Nat):Int)=4 from rfl];go_wp2_with fail
   go_ret
   exact⟨rfl,aA K1⟩
theorem OD(b i:Nat)(x:Bool)(R:Rl)(w:World)(hi:i<4)(h:RAt w b R):Calls Tryz.prog 281 #[.pointer (some ⟨b,0,none⟩),.int .i64 (i:Int),.bool x] w λe w'=>e=.returned (.tuple #[])/\RAt w' b ⟨dH R.I i x,dH R.M i 0,dH R.J i 0⟩/\Kept b w w':=by
 have c1:=h.inn hi;have f1:=h.free i;have h1:=h.setI hi x;have c2:=h.mis hi;have f2:=h.free (4+i);have h2:=h1.setM hi 0;have c3:=h.joi hi;have f3:=h.free (8+i);have H3:=aB ((h2.setJ hi 0).below (aY (Below.refl _ _)));have hi':(i:Int)<4:=Yo;clear h h1 h2;go_enter Tryz.func281,Tryz.ntmps281
 go_region
 go_wp2_with fail
 go_end0
 refine⟨rfl,aA H3,?_⟩;exact (((bI _ _ _ _).trans (bI _ _ _ _) (Or.inl rfl)).trans (bI _ _ _ _) (Or.inl rfl)).trans (mJ _) (Or.inl rfl)
theorem VV(b i:Nat)(A:Nat->Bool)(R:Rl)(w:World)(hi:i<4)(h:RAt w b R)(hI:R.I i=false)(hA:A i=true)(hg:gd R i=true):Calls Tryz.prog 253 #[.pointer (some ⟨b,0,none⟩),.int .i64 (i:Int)] w λe w'=>e=.returned (.int .i64 (if 3<=R.J i+1 then 2 else 0))/\RAt w' b (kH A i R)/\Kept b w w':=by
 obtain⟨g1,g2,g3⟩:=(sU hI).1 hg;have hi':(i:Int)<4:=Yo;obtain⟨t,et⟩:∃t,R.J i=t:=⟨_,rfl⟩;have c1:=h.joi hi;have f1:=h.free (8+i);have h1:=h.setJ hi (t+1);have c2:(w.setCell ⟨b,8+i,none⟩ (.int .i64 (t+1))).cell? ⟨b,8+i,none⟩=some (.int .i64 (t+1)):=by have q:=h1.joi hi;rw[q];show some (Value.int .i64 (dH R.J i (t+1) i))=_;rw[bZ]
 rw[et] at c1 g2 g3 ⊢;have H1:=aB (h1.below (aY (Below.refl _ _)));have ET:=aB et;have G1:=aB g1;have HI:=aB hI;clear h h1 et hg g1 hI;have kk:Kept b w (w.setCell ⟨b,8+i,none⟩ (.int .i64 (t+1))).drew:=(bI _ _ _ _).trans (mJ _) (Or.inl rfl);have KK:=aB kk;clear kk;by_cases h3:3<=t+1
 .have d3:decide (t+1<3)=false:=Xf Yo;rw[if_pos h3];have ST:=aB (aGw (aA HI) hA (by rw[aA ET];exact h3));go_enter Tryz.func253,Tryz.ntmps253
  go_wp2_with fail
  go_region
  go_wp2_with fail
  refine (OD b i true _ _ hi (aA H1)).mono ?_;rintro e w2 ⟨rfl,h2,k2⟩;have H2:=aB h2;have K2:=aB ((aA KK).trans k2 (Or.inl rfl));clear h2 k2 c1 c2 f1;go_wp2_with fail
  go_ret
  refine⟨rfl,?_,aA K2⟩;rw[(aA ST).1];refine (aA H2).alike (λj hj=>⟨rfl,?_,?_⟩)
  .show dH R.M i 0 j=R.M j
   by_cases e:j=i
   .rw[e,bZ,aA G1]
   .rw[dD _ _ e]
  .show dH (dH R.J i (t+1)) i 0 j=dH R.J i 0 j
   by_cases e:j=i
   .rw[e,bZ,bZ]
   .rw[dD _ _ e,dD _ _ e,dD _ _ e]
 .have d3:decide (t+1<3)=true:=Xt Yo;rw[if_neg h3];have ST:=aB (VI (aA HI) hA (by rw[aA ET];exact h3));go_enter Tryz.func253,Tryz.ntmps253
  go_wp2_with fail
  go_region
  go_wp2_with fail
  go_ret
  refine⟨rfl,?_,aA KK⟩;rw[(aA ST).1,aA ET];exact aA H1
theorem RL(b i:Nat)(A:Nat->Bool)(R:Rl)(w:World)(hi:i<4)(h:RAt w b R)(hI:R.I i=true)(hA:A i=false)(hg:gd R i=true):Calls Tryz.prog 252 #[.pointer (some ⟨b,0,none⟩),.int .i64 (i:Int)] w λe w'=>e=.returned (.int .i64 (if 2<=R.M i+1/\2<cn R.I 4 then 1 else 0))/\RAt w' b (kH A i R)/\Kept b w w':=by
 obtain⟨g1,g2,g3⟩:=(gd_in hI).1 hg;have hi':(i:Int)<4:=Yo;obtain⟨t,et⟩:∃t,R.M i=t:=⟨_,rfl⟩;have c1:=h.mis hi;have f1:=h.free (4+i);have h1:=h.setM hi (t+1);have c2:(w.setCell ⟨b,4+i,none⟩ (.int .i64 (t+1))).cell? ⟨b,4+i,none⟩=some (.int .i64 (t+1)):=by have q:=h1.mis hi;rw[q];show some (Value.int .i64 (dH R.M i (t+1) i))=_;rw[bZ]
 rw[et] at c1 g1 g2 ⊢;have H1:=aB (h1.below (aY (Below.refl _ _)));have ET:=aB et;have G3:=aB g3;have HI:=aB hI;clear h h1 et hg g3 hI;have kk:Kept b w (w.setCell ⟨b,4+i,none⟩ (.int .i64 (t+1))).drew:=(bI _ _ _ _).trans (mJ _) (Or.inl rfl);have KK:=aB kk;clear kk;have hcl:cn R.I 4<=4:=LG _ _;by_cases h3:2<=t+1
 .have d3:decide (t+1<2)=false:=Xf Yo;by_cases h4:2<cn R.I 4
  .have h4':(2:Int)<((cn R.I 4:Nat):Int):=Yo;rw[if_pos ⟨h3,h4⟩];have ST:=aB (aCj (aA HI) hA (by rw[aA ET];exact⟨h3,h4⟩));go_enter Tryz.func252,Tryz.ntmps252
   go_wp2_with fail
   go_region
   go_wp2_with (refine lD _ rfl (.tmp 23) rfl rfl (aA H1) ?_)
   refine (yQ _ _).mono ?_;rintro e w1 ⟨rfl,k1⟩;have H1:=aB ((aA H1).below k1);have K1:=aB ((aA KK).trans (Kept.of_below k1) (Or.inl rfl));clear k1 c1 c2 f1;go_wp2_with fail
   refine (OD b i false _ _ hi (aA H1)).mono ?_;rintro e w2 ⟨rfl,h2,k2⟩;have H2:=aB h2;have K2:=aB ((aA K1).trans k2 (Or.inl rfl));clear h2 k2;go_wp2_with fail
   go_ret
   refine⟨rfl,?_,aA K2⟩;rw[(aA ST).1];refine (aA H2).alike (λj hj=>⟨rfl,?_,?_⟩)
   .show dH (dH R.M i (t+1)) i 0 j=dH R.M i 0 j
    by_cases e:j=i
    .rw[e,bZ,bZ]
    .rw[dD _ _ e,dD _ _ e,dD _ _ e]
   .show dH R.J i 0 j=R.J j
    by_cases e:j=i
    .rw[e,bZ,aA G3]
    .rw[dD _ _ e]
  .have h4':¬(2:Int)<((cn R.I 4:Nat):Int):=Yo;rw[if_neg (λh=>h4 h.2)];have ST:=aB (IG (aA HI) hA (by rw[aA ET];exact λh=>h4 h.2));go_enter Tryz.func252,Tryz.ntmps252
   go_wp2_with fail
   go_region
   go_wp2_with (refine lD _ rfl (.tmp 23) rfl rfl (aA H1) ?_)
   refine (yQ _ _).mono ?_;rintro e w1 ⟨rfl,k1⟩;have h1:=(aA H1).below k1;have K1:=aB ((aA KK).trans (Kept.of_below k1) (Or.inl rfl));clear k1 c1 c2 f1;have c1:=h1.mis hi;have f1:=h1.free (4+i);have H2:=aB (h1.setM hi 2);have K2:=aB ((aA K1).trans (bI w1 b (4+i) (.int .i64 2)) (Or.inl rfl));clear h1;go_wp2_with fail
   go_ret
   refine⟨rfl,?_,aA K2⟩;rw[(aA ST).1,aA ET];refine (aA H2).alike (λj hj=>⟨rfl,?_,rfl⟩);show dH (dH R.M i (t+1)) i 2 j=dH R.M i (min (t+1) 2) j
   by_cases e:j=i
   .rw[e,bZ,bZ];omega
   .rw[dD _ _ e,dD _ _ e,dD _ _ e]
 .have d3:decide (t+1<2)=true:=Xt Yo;rw[if_neg (λh=>h3 h.1)];have ST:=aB (IG (aA HI) hA (by rw[aA ET];exact λh=>h3 h.1));go_enter Tryz.func252,Tryz.ntmps252
  go_wp2_with fail
  go_region
  go_wp2_with fail
  go_ret
  refine⟨rfl,?_,aA KK⟩;rw[(aA ST).1,aA ET,show min (t+1) 2=t+1 by omega];exact aA H1
def kdN(A:Nat->Bool)(i:Nat)(R:Rl):Int:=if R.I i=true then (if A i=true then 0 else if 2<=R.M i+1/\2<cn R.I 4 then 1 else 0) else if A i=true then (if 3<=R.J i+1 then 2 else 0) else 0
theorem aMD(A:Nat->Bool)(i:Nat)(R:Rl):(kdN A i R=0/\lQ A i R=[])\/((kdN A i R=1\/kdN A i R=2)/\lQ A i R=[(kdN A i R,i)]):=by grind [kdN,lQ]
theorem aDW(b i:Nat)(A:Nat->Bool)(R:Rl)(w:World)(hi:i<4)(h:RAt w b R)(hg:gd R i=true):Calls Tryz.prog 225 #[.pointer (some ⟨b,0,none⟩),.int .i64 (i:Int),.bool (A i)] w λe w'=>e=.returned (.int .i64 (kdN A i R))/\RAt w' b (kH A i R)/\Kept b w w':=by
 have hi':(i:Int)<4:=Yo;have ci:=h.inn hi
 cases hI:R.I i with
 |true=>
  rw[hI] at ci
  cases hA:A i with
  |true=>
   have K:=aB (show kdN A i R=0 by unfold kdN;rw[if_pos hI,if_pos hA]);have c1:=h.mis hi;have f1:=h.free (4+i);have H2:=aB (h.setM hi 0);have K2:=aB (bI w b (4+i) (.int .i64 0));have ST:=aB (st_agree (A:=A) hI hA);clear h hI hA hg;go_enter Tryz.func225,Tryz.ntmps225
   go_wp2_with fail
   go_ret
   refine⟨by rw[aA K];rfl,?_,aA K2⟩;rw[(aA ST).1];exact aA H2
  |false=>
   have K:=aB (show kdN A i R=if 2<=R.M i+1/\2<cn R.I 4 then 1 else 0 by unfold kdN;rw[if_pos hI,if_neg (by rw[hA];decide)]);have D:=aB (RL b i A R w hi h hI hA hg);clear h hI hA hg;go_enter Tryz.func225,Tryz.ntmps225
   go_wp2_with fail
   refine (aA D).mono ?_;rintro e w2 ⟨rfl,h2,k2⟩;have H2:=aB h2;have K2:=aB k2;clear h2 k2 D ci;rw[<-aA K];go_wp2_with fail
   go_ret
   exact⟨rfl,aA H2,aA K2⟩
 |false=>
  rw[hI] at ci
  cases hA:A i with
  |true=>
   have K:=aB (show kdN A i R=if 3<=R.J i+1 then 2 else 0 by unfold kdN;rw[if_neg (by rw[hI];decide),if_pos hA]);have D:=aB (VV b i A R w hi h hI hA hg);clear h hI hA hg;go_enter Tryz.func225,Tryz.ntmps225
   go_wp2_with fail
   refine (aA D).mono ?_;rintro e w2 ⟨rfl,h2,k2⟩;have H2:=aB h2;have K2:=aB k2;clear h2 k2 D ci;rw[<-aA K];go_wp2_with fail
   go_ret
   exact⟨rfl,aA H2,aA K2⟩
  |false=>
   have K:=aB (show kdN A i R=0 by unfold kdN;rw[if_neg (by rw[hI];decide),if_neg (by rw[hA];decide)]);have c1:=h.joi hi;have f1:=h.free (8+i);have H2:=aB (h.setJ hi 0);have K2:=aB (bI w b (8+i) (.int .i64 0));have ST:=aB (aCi (A:=A) hI hA);clear h hI hA hg;go_enter Tryz.func225,Tryz.ntmps225
   go_wp2_with fail
   go_ret
   refine⟨by rw[aA K];rfl,?_,aA K2⟩;rw[(aA ST).1];exact aA H2
def BgI(w:World)(i:Nat)(wr:World):Prop:=RAt wr (w.heap.size+1) ⟨λj=>decide (j<i),λ_=>0,λ_=>0⟩/\RAt wr w.heap.size dP/\Below w.heap.size w wr
theorem BgI.set{wr:World}{i:Nat}(h:BgI w i wr)(hi:i<4):BgI w (i+1) (wr.setCell ⟨w.heap.size+1,i,none⟩ (.bool true)):=by
 have kk:=bI wr (w.heap.size+1) i (.bool true);refine⟨(h.1.setI hi true).alike (λj hj=>⟨?_,rfl,rfl⟩),h.2.1.kept kk Yo,aF h.2.2 kk Yo h.2.2.size⟩;show dH (λj=>decide (j<i)) i true j=decide (j<i+1)
 by_cases e:j=i
 .rw[e,bZ];simp
 .rw[dD _ _ e];by_cases h:j<i<;>simp[h]<;>omega
theorem yP:aNb 66:=by
 intro w;obtain⟨w1,e1,m1,k1,z1⟩:=uR w dP;obtain⟨w2,e2,m2,k2,z2⟩:=uR w1 dP;rw[z1] at m2;have H0:=aB (show BgI w 0 w2 from ⟨m2.alike (λj _=>⟨rfl,rfl,rfl⟩),m1.below k2,k1.trans (k2.mono k1.size)⟩);unfold dP at e1 e2;dsimp only at e1 e2;have E1:=aB e1;have E2:=aB e2;clear e1 e2 m1 m2 k1 k2 z1 z2;go_enter Tryz.func66,Tryz.ntmps66
 go_wp2_with fail
 rw[<-aA E1, <-aA E2]
 go_loopw [4] (λis wr=>∃i:Nat,is=.int .i64 i/\i<=4/\BgI w i wr) (λis _=>4-(intOf is).toNat)
 case atStart=>exact⟨0,rfl,Yo,aA H0⟩
 case round=>
  obtain⟨i,rfl,hi,hI⟩:=hrel
  rename World=>wr
  by_cases hin:i<4
  .have hin':(i:Int)<4:=Yo;have c1:=hI.1.inn hin;have f1:=hI.1.free i;have H5:=aB (hI.set hin);clear hI;go_wp2_with fail
   go_roundw
   case rel=>exact⟨i+1,by go_num,Yo,aA H5⟩
   case measure=>simp[intOf]<;>omega
  .have e9:i=4:=Yo;subst e9;rw[show ((4:Nat):Int)=4 from rfl];have HI:=aB hI;clear hI;go_wp2_with (first|refine lD _ rfl (.tmp 1) rfl rfl (aA HI).1 ?_|(refine mH _ rfl (.tmp 0) (.tmp 11) rfl rfl rfl (aA HI).2.1 rfl ?_;intro w5 m5 k5))
   have K5:=aB (aF (aA HI).2.2 k5 Yo (aA HI).2.2.size);clear k5;go_wp2_with fail
   have p0:=m5.inn (i:=0) Yo;have p1:=m5.inn (i:=1) Yo;have p2:=m5.inn (i:=2) Yo;have p3:=m5.inn (i:=3) Yo;have p4:=m5.mis (i:=0) Yo;have p5:=m5.mis (i:=1) Yo;have p6:=m5.mis (i:=2) Yo;have p7:=m5.mis (i:=3) Yo;have p8:=m5.joi (i:=0) Yo;have p9:=m5.joi (i:=1) Yo;have p10:=m5.joi (i:=2) Yo;have p11:=m5.joi (i:=3) Yo;refine bodyPost_ret (v:=gK beginR) (by unfold gK;simp[beginR,results,Tryz.results66,go_sem,p0,p1,p2,p3,p4,p5,p6,p7,p8,p9,p10,p11]) rfl ⟨rfl,aA K5⟩
theorem aDB(b:Nat)(R:Rl)(A:Nat->Bool)(ao:Option Addr)(cap:Nat)(w:World)(h:RAt w b R)(hg:mI R=true)(hs:Rd w ao 4 (tF A))(hb:∀x o,ao=some ⟨x,o,none⟩->x≠b):Calls Tryz.prog 190 #[.pointer (some ⟨b,0,none⟩),.slice ao 4 cap] w λe w'=>∃(lo:Option Addr) (lc:Nat),e=.returned (.slice lo (rnN A R 4).2.length lc)/\ChRd w.heap.size w' lo (rnN A R 4).2/\RAt w' b (rnN A R 4).1/\Kept b w w':=by
 obtain⟨x,o,rfl,hcc⟩:=hs Yo;have hx:=hb x o rfl;have HC:=aB hcc;have HG:=aB hg;have H:=aB h;have LT:=aB h.lt;clear h hg hs hb hcc;go_enter Tryz.func190,Tryz.ntmps190
 go_wp2_with fail
 go_loopw [5,11] (λls is wr=>∃i:Nat,is=.int .i64 i/\i<=4/\OwnC wr w.heap.size ls (rnN A R i).2/\RAt wr b (rnN A R i).1/\Kept b w wr) (λ_ is _=>4-(intOf is).toNat)
 case atStart=>exact⟨0,rfl,Yo,OwnC.nil _ _,aA H,JJ _ _⟩
 case round=>
  obtain⟨i,rfl,hi,hO,hR,hk⟩:=hrel
  rename World=>wr
  by_cases hin:i<4
  .have hin':(i:Int)<4:=Yo;have ca:wr.cell? ⟨x,o+i,none⟩=some (.bool (A i)):=yE (aA HC i hin) hk hx;have N:=aB (aDW b i A (rnN A R i).1 wr hin hR (yM.1 (X6 (A:=A) (aA HG) i) i hin));have OX:=aB hO;have KX:=aB hk;clear hO hR hk;go_wp2_with fail
   refine (aA N).mono ?_;rintro e w2 ⟨rfl,h2,k2⟩;have O2:=aB ((aA OX).kept k2 (aA LT));have K2:=aB ((aA KX).trans k2 (Or.inl rfl));have R2:=aB (show RAt w2 b (rnN A R (i+1)).1 from h2);clear h2 k2 OX KX N ca;rcases aMD A i (rnN A R i).1 with ⟨q,l⟩|⟨q,l⟩
   .have O3:=aB (show OwnC w2 w.heap.size u5 (rnN A R (i+1)).2 by
     show OwnC _ _ u5 ((rnN A R i).2++lQ A i (rnN A R i).1)
     rw[l,List.append_nil];exact aA O2)
    rw[q];clear q l;go_wp2_with fail
    go_roundw
    case rel=>exact⟨i+1,by go_num,Yo,aA O3,aA R2,aA K2⟩
    case measure=>simp[intOf]<;>omega
   .have L:=aB l;clear l;generalize kdN A i (rnN A R i).1=kd at*;have q0:(kd !=0)=true:=by rcases q with rfl|rfl<;>rfl
    have KA:=aB (bK w2 (.cells #[.int .i64 kd,.int .i64 (i:Nat)] 219));have V4:=aB (Vh.new w2 219 #[.int .i64 kd,.int .i64 (i:Nat)] (λt=>if t=0 then .int .i64 kd else .int .i64 (i:Nat)) (by show 2<=maxLen;decide) (λt ht=>by
     have:t=0\/t=1:=by simp at ht;omega
     rcases this with rfl|rfl<;>rfl))
    have hl4:(rnN A R i).2.length<=1000:=by have:=aBn A R i;omega
    clear q;go_wp2_with (refine wpList_joinC _ rfl (.tmp 22) (.tmp 26) rfl w.heap.size (Nat.le_trans (aA K2).size (aA KA).size) u5 (rnN A R i).2 rfl ((aA O2).below (aA KA)) w2.heap.size (kd,i) rfl ((aA V4).cell (i:=0) (by show 0<2;omega)) ((aA V4).cell (i:=1) (by show 1<2;omega)) hl4 ?_)
    intro v6 w6 o6 l6;have R6:=aB (((aA R2).below (aA KA)).under l6 (aA LT));have O6:=aB (show OwnC w6 w.heap.size v6 (rnN A R (i+1)).2 by
     show OwnC _ _ v6 ((rnN A R i).2++lQ A i (rnN A R i).1)
     rw[aA L];exact o6)
    have K6:=aB (show Kept b w w6 from by
     have a:=(aA K2).trans (Kept.of_below (aA KA)) (Or.inl rfl);exact⟨l6.os.trans a.os,l6.tape.trans a.tape,l6.output.trans a.output,Nat.le_trans a.size l6.size,λk hk hz=>(l6.block k hk).trans (a.block k hk hz)⟩)
    clear o6 l6 KA V4 O2 R2 K2 L q0;go_wp2_with fail
    go_roundw
    case rel=>exact⟨i+1,by go_num,Yo,aA O6,aA R6,aA K6⟩
    case measure=>simp[intOf]<;>omega
  .have e9:i=4:=Yo;subst e9;rw[show ((4:Nat):Int)=4 from rfl];obtain⟨lo,lc,el⟩:=hO.slice;subst el;have C:=aB hO.rd;have RR:=aB hR;have KK:=aB hk;clear hO hR hk;go_wp2_with fail
   go_ret
   exact⟨lo,lc,rfl,aA C,aA RR,aA KK⟩
set_option maxRecDepth 100000 in
theorem KU:aNn 130:=by
 intro r X st ao n cap A w hRJ _ hn hcap hs;obtain⟨w3,e3,j3⟩:=TF w r X st (.slice ao n cap);have J3:=aB j3;have E3:=aB e3;have HR:=aB hs.rd;have RJ:=aB hRJ;have v2':=j3.v.cell2;rw[e3] at v2';clear j3 e3 hs hRJ;by_cases h4:n=4
 .subst h4;unfold gK vdV;go_enter Tryz.func130,Tryz.ntmps130
  go_wp2_with (refine lD _ rfl (.tmp 2) rfl rfl (by rw[<-aA E3];exact (aA J3).r) ?_)
  rw[<-aA E3];clear v2';refine (G9 r _ (aA RJ)).mono ?_;rintro e w4 ⟨rfl,k4⟩;have J4:=aB ((aA J3).below k4);clear k4 J3 E3
  cases hg:mI r with
  |false=>
   go_wp2_with (refine mH _ rfl (.tmp 4) (.tmp 16) rfl rfl (r:=dP) rfl (aA J4).z rfl ?_)
   intro w5 m5 k5;have K5:=aB (aF (aA J4).k k5 Yo (aA J4).k.size);clear k5;go_wp2_with fail
   have e:stR r st 4 A=(dP,[],3):=by unfold stR;rw[if_neg Yo,if_pos hg]
   have p0:=m5.inn (i:=0) Yo;have p1:=m5.inn (i:=1) Yo;have p2:=m5.inn (i:=2) Yo;have p3:=m5.inn (i:=3) Yo;have p4:=m5.mis (i:=0) Yo;have p5:=m5.mis (i:=1) Yo;have p6:=m5.mis (i:=2) Yo;have p7:=m5.mis (i:=3) Yo;have p8:=m5.joi (i:=0) Yo;have p9:=m5.joi (i:=1) Yo;have p10:=m5.joi (i:=2) Yo;have p11:=m5.joi (i:=3) Yo;refine bodyPost_ret (v:=.tuple #[gK dP,.slice none 0 0,.int .i64 3]) (by unfold gK;simp[results,Tryz.results130,go_sem,p0,p1,p2,p3,p4,p5,p6,p7,p8,p9,p10,p11]) rfl ⟨none,0,?_,?_,aA K5⟩
   .rw[e];rfl
   .rw[e];exact λh=>absurd h Yc
  |true=>
   have HG:=aB hg;clear hg;have c1:=(aA J4).v.cell1;have c2:=(aA J4).v.cell2
   cases st with
   |false=>
    have RE:=aB (show stR r false 4 A=(r,[],0) from aFz (aA HG));go_wp2_with (first|refine lD _ rfl (.tmp 2) rfl rfl (aA J4).r ?_|(refine mH _ rfl (.tmp 4) (.tmp 20) rfl rfl rfl (aA J4).z rfl ?_;intro w5 m5 k5))
    have K5:=aB (aF (aA J4).k k5 Yo (aA J4).k.size);clear k5 c1 c2;go_wp2_with fail
    have p0:=m5.inn (i:=0) Yo;have p1:=m5.inn (i:=1) Yo;have p2:=m5.inn (i:=2) Yo;have p3:=m5.inn (i:=3) Yo;have p4:=m5.mis (i:=0) Yo;have p5:=m5.mis (i:=1) Yo;have p6:=m5.mis (i:=2) Yo;have p7:=m5.mis (i:=3) Yo;have p8:=m5.joi (i:=0) Yo;have p9:=m5.joi (i:=1) Yo;have p10:=m5.joi (i:=2) Yo;have p11:=m5.joi (i:=3) Yo;refine bodyPost_ret (v:=.tuple #[gK r,.slice none 0 0,.int .i64 0]) (by unfold gK;simp[results,Tryz.results130,go_sem,p0,p1,p2,p3,p4,p5,p6,p7,p8,p9,p10,p11]) rfl ⟨none,0,?_,?_,aA K5⟩
    .rw[aA RE];rfl
    .rw[aA RE];exact λh=>absurd h (Nat.lt_irrefl 0)
   |true=>
    have RE:=aB (show stR r true 4 A=((rnN A r 4).1,(rnN A r 4).2,0) from EI (aA HG));have GO:=aB (aDB w.heap.size r A ao cap w4 (aA J4).r (aA HG) (λh=>by
     obtain⟨x,o,e,hc⟩:=aA HR h;exact⟨x,o,e,λi hi=>aU (hc i hi) (aA J4).k⟩) (λx o e=>by
     obtain⟨x',o',e',hc⟩:=aA HR Yo;rw[e] at e'
     cases e'
     have:=World.block_lt_of_cell? w _ (hc 0 Yo);exact Nat.ne_of_lt this))
    have Z4:=aB (aA J4).n;go_wp2_with fail
    refine (aA GO).mono ?_;rintro e w5 ⟨lo,lc,rfl,g5,r5,k5⟩;have J5:=aB ((aA J4).put k5 r5);have G5:=aB g5;clear g5 r5 k5 J4 GO c1 c2;go_wp2_with (first|refine lD _ rfl (.tmp 2) rfl rfl (aA J5).r ?_|(refine mH _ rfl (.tmp 4) (.tmp 24) rfl rfl rfl (aA J5).z rfl ?_;intro w6 m5 k5))
    have K5:=aB (aF (aA J5).k k5 Yo (aA J5).k.size);have C5:=aB (((aA G5).young k5 (by have:=aA Z4;omega)).weak (show w.heap.size<=w4.heap.size by have:=aA Z4;omega));clear k5;go_wp2_with fail
    have p0:=m5.inn (i:=0) Yo;have p1:=m5.inn (i:=1) Yo;have p2:=m5.inn (i:=2) Yo;have p3:=m5.inn (i:=3) Yo;have p4:=m5.mis (i:=0) Yo;have p5:=m5.mis (i:=1) Yo;have p6:=m5.mis (i:=2) Yo;have p7:=m5.mis (i:=3) Yo;have p8:=m5.joi (i:=0) Yo;have p9:=m5.joi (i:=1) Yo;have p10:=m5.joi (i:=2) Yo;have p11:=m5.joi (i:=3) Yo;refine bodyPost_ret (v:=.tuple #[gK (rnN A r 4).1,.slice lo (rnN A r 4).2.length lc,.int .i64 0]) (by unfold gK;simp[results,Tryz.results130,go_sem,p0,p1,p2,p3,p4,p5,p6,p7,p8,p9,p10,p11]) rfl ⟨lo,lc,by rw[aA RE];rfl,by rw[aA RE];exact aA C5,aA K5⟩
 .have h4':(n:Int)≠4:=Yo;have t4:((n:Int)!=4)=true:=by simp[h4']
  unfold gK vdV;go_enter Tryz.func130,Tryz.ntmps130
  go_wp2_with (refine mH _ rfl (.tmp 4) (.tmp 12) rfl rfl (r:=dP) rfl (by rw[<-aA E3];exact (aA J3).z) rfl ?_)
  intro w5 m5 k5;rw[<-aA E3] at k5;have K5:=aB (aF (aA J3).k k5 Yo (aA J3).k.size);clear k5 v2';go_wp2_with fail
  have e:stR r st n A=(dP,[],8):=by unfold stR;rw[if_pos h4]
  have p0:=m5.inn (i:=0) Yo;have p1:=m5.inn (i:=1) Yo;have p2:=m5.inn (i:=2) Yo;have p3:=m5.inn (i:=3) Yo;have p4:=m5.mis (i:=0) Yo;have p5:=m5.mis (i:=1) Yo;have p6:=m5.mis (i:=2) Yo;have p7:=m5.mis (i:=3) Yo;have p8:=m5.joi (i:=0) Yo;have p9:=m5.joi (i:=1) Yo;have p10:=m5.joi (i:=2) Yo;have p11:=m5.joi (i:=3) Yo;refine bodyPost_ret (v:=.tuple #[gK dP,.slice none 0 0,.int .i64 8]) (by unfold gK;simp[results,Tryz.results130,go_sem,p0,p1,p2,p3,p4,p5,p6,p7,p8,p9,p10,p11]) rfl ⟨none,0,?_,?_,aA K5⟩
  .rw[e];rfl
  .rw[e];exact λh=>absurd h Yc
end Go.Proofs.YthimcecbgpamdaaGreatDoor
