import Derived.Test.YthimcecbgpamdaaGreatDoorNear102
import Derived.Test.YthimcecbgpamdaaGreatDoorNear101
set_option maxHeartbeats 2000000
namespace Go.Proofs.YthimcecbgpamdaaGreatDoor
open Go.RowKit
def relI(n:Nd)(l:List Ms)(i s a:Nat):Int:=if s<i then relD n l s a else n.di s a
def aEx(n:Nd)(l:List Ms)(j:Nat):Int:=relD n l (j/3) (j%3)
variable{n:Nd}{v:Value}
theorem aIe{d d':Nat->Nat->Int}(h:∀s a,s<4->d s a=d' s a):ndF { n with di:=d } v=ndF { n with di:=d' } v:=ndF_ext (n:=n) h (λ_ _ _ _=>rfl) (λ_ _=>rfl) (λ_ _=>rfl)
variable{i:Nat}
theorem aLg(n:Nd)(v:Value){a:Nat}(hi:i<4)(ha:a<3):ndF n v (0+39+i*3+a*1)=.int .i64 (n.di i a):=by
 unfold ndF;rw[if_neg Yo,if_neg Yo,if_neg Yo,if_neg Yo,if_pos Yo,show (0+39+i*3+a*1-39)/3=i by omega,show (0+39+i*3+a*1-39)%3=a by omega];rfl
theorem aEy(n:Nd)(l:List Ms):∀s a,s<4->relI n l 4 s a=relD n l s a:=λs a h=>by unfold relI;rw[if_pos h]
variable{L:List Lm}
theorem aEz(h:fL n.id n.fr L (i:Int) 1 3=none):({ n with di:=relI n (L.map Lm.m) i }:Nd)={ n with di:=relI n (L.map Lm.m) (i+1) }:=by
 congr 1
 funext s a
 unfold relI;by_cases c1:s<i
 .rw[if_pos c1,if_pos Yo]
 .rw[if_neg c1];by_cases c2:s=i
  .subst c2;rw[if_pos Yo];unfold relD;have:=nZ n L s 1 3;rw[show ((3:Nat):Int)=3 from rfl,h] at this;rw[<-this];rfl
  .rw[if_neg Yo]
variable{c:Lm}
theorem aEA(h:fL n.id n.fr L (i:Int) 1 3=some c):({ n with di:=λs a=>if s=i then gL c.m.L a else relI n (L.map Lm.m) i s a }:Nd)={ n with di:=relI n (L.map Lm.m) (i+1) }:=by
 congr 1
 funext s a
 unfold relI;by_cases c2:s=i
 .subst c2;rw[if_pos rfl,if_pos Yo];unfold relD;have:=nZ n L s 1 3;rw[show ((3:Nat):Int)=3 from rfl,h] at this;rw[<-this];rfl
 .rw[if_neg c2];by_cases c1:s<i
  .rw[if_pos c1,if_pos Yo]
  .rw[if_neg c1,if_neg Yo]
theorem aKN(f:Nat->Int)(k:Nat):rowV (iF (gL ((List.range k).map f))) k=rowV (iF f) k:=by
 refine jF (λi hi=>?_);unfold iF gL;rw[List.getD_eq_getElem?_getD,List.getElem?_map,List.getElem?_range hi];rfl
variable{b:Nat}{w:World}
theorem aIz{e:TypeId}{u:Value}(m:Vh e w b 1 1 (λ_=>u)):TM w 1 (.slice (some ⟨b,0,none⟩) 1 1) 1 [u]:=Or.inr ⟨⟨b,0,none⟩,1,rfl,rfl,λj u' hj=>by
 obtain rfl:j=0:=by
  have:=(List.getElem?_eq_some_iff.1 hj).1;simp at this;exact this
 cases hj
 exact m.cell (show 0<1 by omega)⟩
def agR(w:World)(n:Nd)(a:Option Addr)(c:Nat):It:=fF w.heap.size 4 1 (.slice a n.vA.length c) n.vA.length (rowV (tF (bA n)) n.vA.length)
instance iRefNod6_1:EntK Tryz.prog 99:=⟨λargs w=>Yh⟩
abbrev aDe(w w1 w2:World)(n m:Nd)(a3:Option Addr)(c3:Nat):List It:=[agR w n a3 c3,bE 79 w2.heap.size 4 4 (qN 0 0 0 (.slice none 0 0)),bE 43 w1.heap.size 74 74 (ndF dW (.slice none 0 0)),bE 43 w.heap.size 74 74 (ndF m (.slice a3 n.vA.length c3))]
abbrev dcA(k:Nat)(A:Act)(w w1 w2:World)(v:Value):Prop:=A.tmps.size=k/\A.defers=[]/\A.eval (.tmp 1)=v/\A.eval (.tmp 2)=.pointer (some ⟨w.heap.size,0,none⟩)/\A.eval (.tmp 4)=.pointer (some ⟨w1.heap.size,0,none⟩)/\A.eval (.tmp 5)=.pointer (some ⟨w2.heap.size,0,none⟩)
def UO(c:Lm):List Value:=[iV c.m.K,iV c.m.F,iV c.m.R,lmV c]
def uE:List Lm->List Value
 |[]=>[]
 |c::L=>UO c++uE L
theorem WN(L M:List Lm):uE (L++M)=uE L++uE M:=by
 induction L with
 |nil=>rfl
 |cons c L ih=>show UO c++uE (L++M)=(UO c++uE L)++uE M;rw[ih,List.append_assoc]
theorem UQ(L:List Lm):(uE L).length=L.length*4:=by
 induction L with
 |nil=>rfl
 |cons c L ih=>show (UO c++uE L).length=_;rw[List.length_append,ih,List.length_cons];show 4+_=_;omega
theorem aHR:∀u,u∈uE L->u.oneCell'=true:=by
 induction L with
 |nil=>intro u hu;exact absurd hu (List.not_mem_nil)
 |cons c L ih=>
  intro u hu;rcases List.mem_append.1 hu with h|h
  .unfold UO lmV iV at h;simp at h;rcases h with rfl|rfl|rfl|rfl<;>rfl
  .exact ih u h
theorem aAG(L:List Lm):∀(i:Nat) (c:Lm),L[i]?=some c->∀k,k<4->(uE L)[i*4+k]?=some (sW c k):=by
 induction L with
 |nil=>intro i c h;simp at h
 |cons d L ih=>
  intro i c h k hk;show (UO d++uE L)[i*4+k]?=_
  cases i with
  |zero=>
   have e:d=c:=by simpa using h
   subst e;rw[List.getElem?_append_left (by show 0*4+k<4;omega)]
   match k,hk with
   |0,_=>rfl
   |1,_=>rfl
   |2,_=>rfl
   |3,_=>rfl
  |succ i=>
   rw[List.getElem?_append_right (by show 4<=_;omega)];have:=ih i c (by simpa using h) k hk;rw[<-this]
   congr 1
   show (i+1)*4+k-4=_
   omega
def LY(w:World)(B:Nat)(c:Lm):Prop:=w.ownsRow B 3 1 (lmV c) c.m.L.length (rowV (iF (gL c.m.L)) c.m.L.length)
def OwnM(w:World)(B:Nat)(v:Value)(L:List Lm):Prop:=w.ownsRow B 79 4 v L.length (uE L)/\∀c,c∈L->LY w B c
variable{B:Nat}{t:TypeId}
theorem rT{s n:Nat}{xs:List Value}(h:w.ownsRow B t s v n xs)(e:v.ownBlock=some b):∃cur,w.heap[b]?=some (.cells cur t (0,0)):=by
 rcases h.2 with ⟨rfl,h0⟩|⟨g,c,cur,rfl,hb,hg,_⟩
 .cases e
 .cases e;exact⟨cur,hg⟩
theorem OwnM.below{w':World}(h:OwnM w B v L)(k:Below w.heap.size w w'):OwnM w' B v L:=⟨bM h.1 k,λc hc=>bM (h.2 c hc) k⟩
theorem OwnM.nil(w:World)(B:Nat):OwnM w B (.slice none 0 0) []:=⟨World.ownsRow_nil _ _ _ _,λ_ h=>absurd h (List.not_mem_nil)⟩
variable{ao:Option Addr}
theorem OwnM.rd{n cap:Nat}(h:OwnM w B (.slice ao n cap) L)(hl:∀c,c∈L->c.m.L.length<=17592186044404):MRd w ao L:=by
 refine⟨λhp=>?_,λc hc=>?_⟩
 .rcases h.1.2 with ⟨e,h0⟩|⟨g,cp,cur,e,hb,hg,hc,hm,hsz,hcur⟩
  .omega
  .cases e
   refine⟨g,0,rfl,λi c hi k hk=>?_⟩;have hlt:=(List.getElem?_eq_some_iff.1 hi).1;have h1:=aAG L i c hi k hk;have hL:=UQ L;rw[<-hcur,List.getElem?_take,if_pos Yo,Array.getElem?_toList] at h1;unfold World.cell?;rw[hg];show cur[0+i*4+k]?=_
   rw[Nat.zero_add];exact h1
 .obtain⟨ao2,cap2,e,hs,hc2⟩:=kK (h.2 c hc);unfold lmV at e
  cases e
  exact⟨hs,hc2,hl c hc⟩
variable{Q:Exit->Act->World->Prop}{a:Act}
theorem QS(w:World){o:Oper}{K:Act->World->Prop}(x:Operand)(ho:o.op=.buildSlice 101 1 #[(0,x)])(hx:a.eval x=aP (sW c) 0 4)(h:∀w',Vh 79 w' w.heap.size 4 4 (sW c)->Below w.heap.size w w'->w'.heap.size=w.heap.size+1->K (a.put o.dst (.slice (some ⟨w.heap.size,0,none⟩) 1 1)) w'):WpI Tryz.prog o a w K Q:=by
 have hh:=h (w.alloc (.cells #[.int .i64 c.m.K,.int .i64 c.m.F,.int .i64 c.m.R,.slice c.ao c.m.L.length c.cap] 79)) (Vh.of_row (sW c) 4 Yc (by show (w.heap.push _)[w.heap.size]?=_;rw[Array.getElem?_push_size];rfl)) (bK _ _) (dG _ _);have hx':a.eval x=.agg #[.int .i64 c.m.K,.int .i64 c.m.F,.int .i64 c.m.R,.slice c.ao c.m.L.length c.cap]:=hx;have e:(execOp a.eval o).run Tryz.prog w=.ok (.value (.slice (some ⟨w.heap.size,0,none⟩) 1 1)) (w.alloc (.cells #[.int .i64 c.m.K,.int .i64 c.m.F,.int .i64 c.m.R,.slice c.ao c.m.L.length c.cap] 79)):=by
  clear hx hh;generalize a.eval=f at hx';unfold execOp;rw[ho];simp only[List.map_toArray,List.map_cons,List.map_nil];rw[hx'];go_simp
 refine⟨?_⟩;unfold Oper.wp;rw[e];exact hh
theorem Z7(f:Nat->Bool)(hi:i<4)(w:World):(Instr.index 33 (.agg #[.bool (f 0),.bool (f 1),.bool (f 2),.bool (f 3)]) (.int .i64 (i:Int))).run Tryz.prog w=.ok (.bool (f i)) w:=by
 have:i=0\/i=1\/i=2\/i=3:=Yo;rcases this with rfl|rfl|rfl|rfl<;>simp[Instr.index,go_sem]
def gcN(b:Bool)(m t:Int):Bool:=if b then decide (0<=m)&&decide (m<=2)&&decide (t=0) else decide (m=0)&&decide (0<=t)&&decide (t<=2)
theorem aMu(r:Rl)(i:Nat):gd r i=gcN (r.I i) (r.M i) (r.J i):=rfl
theorem GA(b:Bool)(m t:Int)(w:World):Calls Tryz.prog 224 #[.bool b,.int .i64 m,.int .i64 t] w λe w'=>e=.returned (.bool (gcN b m t))/\w'=w:=by
 cases b with
 |true=>
  have G:=aB (show gcN true m t=(decide (0<=m)&&decide (m<=2)&&decide (t=0)) from rfl);by_cases h1:0<=m
  .have d1:decide (0<=m)=true:=Xt h1;by_cases h2:m<=2
   .have d2:decide (m<=2)=true:=Xt h2;by_cases h3:t=0
    .subst h3;go_enter Tryz.func224,Tryz.ntmps224
     go_wp2_with fail
     go_ret
     exact⟨by rw[aA G,d1,d2];rfl,rfl⟩
    .have d3:(t==0)=false:=by simp[h3]
     have d4:decide (t=0)=false:=Xf h3;go_enter Tryz.func224,Tryz.ntmps224
     go_wp2_with fail
     go_ret
     exact⟨by rw[aA G,d1,d2,d4];rfl,rfl⟩
   .have d2:decide (m<=2)=false:=Xf h2;go_enter Tryz.func224,Tryz.ntmps224
    go_wp2_with fail
    go_ret
    exact⟨by rw[aA G,d1,d2];rfl,rfl⟩
  .have d1:decide (0<=m)=false:=Xf h1;go_enter Tryz.func224,Tryz.ntmps224
   go_wp2_with fail
   go_ret
   exact⟨by rw[aA G,d1];rfl,rfl⟩
 |false=>
  have G:=aB (show gcN false m t=(decide (m=0)&&decide (0<=t)&&decide (t<=2)) from rfl);by_cases h1:0<=t
  .have d1:decide (0<=t)=true:=Xt h1;by_cases h2:t<3
   .have d2:decide (t<3)=true:=Xt h2;have d5:=aB (show decide (t<=2)=true from Xt Yo);by_cases h3:m=0
    .subst h3;go_enter Tryz.func224,Tryz.ntmps224
     go_wp2_with fail
     go_ret
     exact⟨by rw[aA G,d1,aA d5];rfl,rfl⟩
    .have d3:(m==0)=false:=by simp[h3]
     have d4:decide (m=0)=false:=Xf h3;go_enter Tryz.func224,Tryz.ntmps224
     go_wp2_with fail
     go_ret
     exact⟨by rw[aA G,d4];rfl,rfl⟩
   .have d2:decide (t<3)=false:=Xf h2;have d5:=aB (show decide (t<=2)=false from Xf Yo);go_enter Tryz.func224,Tryz.ntmps224
    go_wp2_with fail
    go_ret
    exact⟨by rw[aA G,aA d5,Bool.and_false];rfl,rfl⟩
  .have d1:decide (0<=t)=false:=Xf h1;go_enter Tryz.func224,Tryz.ntmps224
   go_wp2_with fail
   go_ret
   exact⟨by rw[aA G,d1,Bool.and_false];rfl,rfl⟩
variable{r:Rl}
theorem RAt.drew(h:RAt w b r):RAt w.drew b r:=h
theorem G9:aNj 189:=by
 intro r w _;obtain⟨w1,e1,m1,k1,z1⟩:=uR w r;have p0:=m1.inn (i:=0) Yo;have p1:=m1.inn (i:=1) Yo;have p2:=m1.inn (i:=2) Yo;have p3:=m1.inn (i:=3) Yo;rw[e1] at p0 p1 p2 p3;have E1:=aB e1;have M1:=aB m1;have K1:=aB k1;clear e1 m1 k1 z1;unfold gK;go_enter Tryz.func189,Tryz.ntmps189
 go_wp2_with fail
 rw[<-aA E1];clear p0 p1 p2 p3
 go_loopw [7] (λis wr=>∃i:Nat,is=.int .i64 i/\i<=4/\(∀j,j<i->gd r j=true)/\RAt wr w.heap.size r/\Below w.heap.size w wr) (λis _=>4-(intOf is).toNat)
 case atStart=>exact⟨0,rfl,Yo,λj h=>absurd h Yo,aA M1,aA K1⟩
 case round=>
  obtain⟨i,rfl,hi,hg,hm,hk⟩:=hrel
  rename World=>wr
  have HG:=aB hg;have HK:=aB hk;clear hg hk M1 K1;by_cases hin:i<4
  .have hin':(i:Int)<4:=Yo;have NX:=aB (λh:gd r i=true=>show ∀j,j<i+1->gd r j=true from λj hj=>by
    by_cases e:j=i
    .rw[e];exact h
    .exact aA HG j Yo)
   have at_:=Z7 r.I hin;have GG:=aB (aMu r i);have hS:(λu=>RAt u w.heap.size r) wr.drew:=hm.drew;have HM:=aB hm;clear hm;go_wp2_with fail
   refine fD (S:=λu=>RAt u w.heap.size r) [(0,false),(1,false),(2,false),(3,false),(4,false),(5,false),(6,false),(7,false),(8,false),(9,true),(10,true)] [] Yl Yl ?_;iterate 9
    refine bH (v:=?_) rfl (λ_ _ _ h=>h) (by rfl) hS ?_ ?_
    rotate_left 1
    .intro wx hwx;have cm:=RAt.mis hwx hin;have cj:=RAt.joi hwx hin;clear hwx;go_simp<;>exact rfl
    go_frame
   refine bO rfl (λK hK=>?_);go_simp
   refine (GA (r.I i) (r.M i) (r.J i) _).mono ?_;rintro e w2 ⟨rfl,rfl⟩;refine hK _ _ (λ_=>hS) ?_;clear hK K;rw[<-aA GG];refine bO rfl (λK hK=>?_);go_simp
   refine hK _ _ (λ_=>hS) ?_;clear hK K;refine gV ?_;have M2:=aB ((aA HM).drew);have K2:=aB (aY (aA HK));clear hS HM HK at_
   cases hb:gd r i with
   |true=>
    have Y:=aB (aA NX hb);go_wp2_with fail
    go_roundw
    case rel=>exact⟨i+1,by go_num,Yo,aA Y,aA M2,aA K2⟩
    case measure=>simp[intOf]<;>omega
   |false=>
    have N:=aB (aKO hin hb);go_wp2_with fail
    go_ret
    exact⟨by rw[aA N];rfl,aA K2⟩
  .have e9:i=4:=Yo;subst e9;rw[show ((4:Nat):Int)=4 from rfl];have N:=aB (yM.2 (aA HG));clear hm;go_wp2_with fail
   go_ret
   exact⟨by rw[aA N];rfl,aA HK⟩
theorem fM(x y:Value)(w:World):(callFunc 257 #[x,y]).run Tryz.prog w=.ok (.enter 257 #[x,y]) w:=Yh
theorem G6(x:Value)(w:World):(callFunc 256 #[x]).run Tryz.prog w=.ok (.enter 256 #[x]) w:=Yh
theorem KQ(x:Value)(w:World):(callFunc 227 #[x]).run Tryz.prog w=.ok (.enter 227 #[x]) w:=Yh
theorem wY(x:Value)(w:World):(callFunc 258 #[x]).run Tryz.prog w=.ok (.enter 258 #[x]) w:=Yh
theorem G7(x y z:Value)(w:World):(callFunc 228 #[x,y,z]).run Tryz.prog w=.ok (.enter 228 #[x,y,z]) w:=Yh
theorem MW(x:Value)(w:World):(callFunc 189 #[x]).run Tryz.prog w=.ok (.enter 189 #[x]) w:=Yh
def mO(x l:Int):Bool:=decide (0<=x)&&decide (x<=l)
theorem iA(x l:Int)(w:World):Calls Tryz.prog 257 #[.int .i64 x,.int .i64 l] w λe w'=>e=.returned (.bool (mO x l))/\Below w.heap.size w w':=by
 unfold mO;by_cases h1:0<=x
 .by_cases h2:x<=l
  .rw[Xt h1,Xt h2];refine bB Tryz.func257 rfl 12 rfl Yd (λA hs hd hb=>?_);have b0:=hb 0 _ rfl;have b1:=hb 1 _ rfl;clear hb;refine aD (aG ?_);refine Yx ?_;refine aC<|aD<|Yx ?_;refine Yq (fU (b:=true) _ _ rfl Yf (aI _ _) (Xt h1) _) ?_;iterate 3 refine Yx ?_
   refine Yq (wD (b:=true) _ _ rfl Yf Yf (Xt h2) _) ?_;refine Yq (aO _ _ _ rfl Yf Yf _) ?_;refine Yx ?_;refine aC ?_;exact aN (aK YB (bL rfl Yf) ⟨rfl,Below.refl _ _⟩)
  .rw[Xt h1,Xf h2];refine bB Tryz.func257 rfl 12 rfl Yd (λA hs hd hb=>?_);have b0:=hb 0 _ rfl;have b1:=hb 1 _ rfl;clear hb;refine aD (aG ?_);refine Yx ?_;refine aC<|aD<|Yx ?_;refine Yq (fU (b:=true) _ _ rfl Yf (aI _ _) (Xt h1) _) ?_;iterate 3 refine Yx ?_
   refine Yq (wD (b:=false) _ _ rfl Yf Yf (Xf h2) _) ?_;refine Yq (aO _ _ _ rfl Yf Yf _) ?_;refine Yx ?_;refine aC ?_;exact aN (aK YB (bL rfl Yf) ⟨rfl,Below.refl _ _⟩)
 .rw[Xf h1];refine bB Tryz.func257 rfl 12 rfl Yd (λA hs hd hb=>?_);have b0:=hb 0 _ rfl;have b1:=hb 1 _ rfl;clear hb;refine aD (aG ?_);refine Yx ?_;refine aC<|aD<|Yx ?_;refine Yq (fU (b:=false) _ _ rfl Yf (aI _ _) (Xf h1) _) ?_;refine Yx ?_;iterate 3 refine Yu ?_
  refine Yq (aZ _ _ _ rfl Yf (aI _ _) _) ?_;refine Yx ?_;refine aC ?_;exact aN (aK YB (bL rfl Yf) ⟨rfl,Below.refl _ _⟩)
def axS(p:Nat->Int):St:=⟨p 0,p 1,p 2,p 3,p 4,decide (p 5=1),p 6⟩
def TQ(p:Nat->Int):St:=if mO (p 5) 1 then axS p else St.nil'
theorem CJ(z:Addr)(m mc:Nat)(p:Nat->Int)(w:World)(hm:7<=m)(hz:∀i,i<7->w.cell? (z.add i)=some (.int .i64 (p i))):Calls Tryz.prog 256 #[.slice (some z) m mc] w λe w'=>e=.returned (.tuple #[aP (dK (TQ p)) 0 7,.bool (mO (p 5) 1)])/\Below w.heap.size w w':=by
 refine bB Tryz.func256 rfl 33 rfl Yd (λA hs hd hb=>?_);have b0:=hb 0 _ rfl;clear hb;rcases hb:mO (p 5) 1 with _|_
 .refine aD (aG ?_);refine Za wP (λw1 m1 k1 z1=>?_);refine Yx ?_;refine aC<|aH<|aD<|Yx ?_;refine Yq (fQ _ _ rfl (a:=z) (n:=m) (cap:=mc) Yf (aI _ _) (i:=5) rfl Yo _) ?_;refine Yq (fT _ rfl Yf (aU (hz 5 Yo) k1)) ?_;refine bJ rfl Yw (λK hK=>?_);have C1:=iA (p 5) 1 w1;rw[hb] at C1;refine dL _ 257 _ _ _ rfl Yf (aI _ _) (fM _ _ _) C1 ?_;rintro e w2 ⟨rfl,k2⟩;have n2:=k2.size;have mr2:=m1.below k2;refine⟨_,rfl,?_⟩;refine hK _ _ ?_;clear hK K;refine Yx ?_;refine aC<|aT Yf ?_;refine aD<|Yq (aBy rfl _) ?_;refine Zs jJ mr2 (dU _) (λw3 mm3 k3 z3=>?_);have mr3:=Vh.congr mm3 (rZ _ _);refine Yx ?_;refine aC<|aN ?_;simp only[Nx,Exit.then];refine aK YB (nO rfl Yf Yf jJ mr3 (Xr _)) ⟨?_,aF (k1.trans (k2.mono Yo)) k3 Yo Yo⟩;unfold TQ;rw[hb];rfl
 .refine aD (aG ?_);refine Za wP (λw1 m1 k1 z1=>?_);refine Yx ?_;refine aC<|aH<|aD<|Yx ?_;refine Yq (fQ _ _ rfl (a:=z) (n:=m) (cap:=mc) Yf (aI _ _) (i:=5) rfl Yo _) ?_;refine Yq (fT _ rfl Yf (aU (hz 5 Yo) k1)) ?_;refine bJ rfl Yw (λK hK=>?_);have C1:=iA (p 5) 1 w1;rw[hb] at C1;refine dL _ 257 _ _ _ rfl Yf (aI _ _) (fM _ _ _) C1 ?_;rintro e w2 ⟨rfl,k2⟩;have n2:=k2.size;have mr2:=m1.below k2;refine⟨_,rfl,?_⟩;refine hK _ _ ?_;clear hK K;refine Yx ?_;refine aC<|aQ Yf (aS ?_);refine aH ?_;have hS0:(λZ=>∀i,i<7->Z.cell? (z.add i)=some (.int .i64 (p i))) w2.drew:=λi hi=>aU (hz i hi) (aY (k1.trans (k2.mono Yo)))
  have mr0:Vh _ w2.drew _ _ _ _:=mr2;have ez:w2.drew.heap.size=w2.heap.size:=rfl;refine eU (S:=λZ=>∀i,i<7->Z.cell? (z.add i)=some (.int .i64 (p i))) (.mv 0 (.mv 1 (.rd 2 (.mv 3 (.mv 4 (.rd 5 (.mv 6 (.mv 7 (.rd 8 (.mv 9 (.mv 10 (.rd 11 (.mv 12 (.mv 13 (.rd 14 (.mv 15 (.mv 16 (.rd 17 (.mv 18 (.mv 19 (.mv 20 (.rd 21 (.mv 22 (.go 23 (.mv 24 .fin))))))))))))))))))))))))) [23] Yl Yl ?_;refine Yj ?_;refine Yk rfl (λ_=>fQ _ _ rfl (a:=z) (n:=m) (cap:=mc) Yf (aI _ _) (i:=0) rfl Yo _) ?_;refine Yr rfl hS0 (λ_ hS=>fT _ rfl Yf (hS 0 Yc)) ?_;refine Yj ?_;refine Yk rfl (λ_=>fQ _ _ rfl (a:=z) (n:=m) (cap:=mc) Yf (aI _ _) (i:=1) rfl Yo _) ?_;refine Yr rfl hS0 (λ_ hS=>fT _ rfl Yf (hS 1 Yc)) ?_;refine Yj ?_;refine Yk rfl (λ_=>fQ _ _ rfl (a:=z) (n:=m) (cap:=mc) Yf (aI _ _) (i:=2) rfl Yo _) ?_;refine Yr rfl hS0 (λ_ hS=>fT _ rfl Yf (hS 2 Yc)) ?_;refine Yj ?_;refine Yk rfl (λ_=>fQ _ _ rfl (a:=z) (n:=m) (cap:=mc) Yf (aI _ _) (i:=3) rfl Yo _) ?_;refine Yr rfl hS0 (λ_ hS=>fT _ rfl Yf (hS 3 Yc)) ?_;refine Yj ?_;refine Yk rfl (λ_=>fQ _ _ rfl (a:=z) (n:=m) (cap:=mc) Yf (aI _ _) (i:=4) rfl Yo _) ?_;refine Yr rfl hS0 (λ_ hS=>fT _ rfl Yf (hS 4 Yc)) ?_;refine Yj ?_;refine Yk rfl (λ_=>fQ _ _ rfl (a:=z) (n:=m) (cap:=mc) Yf (aI _ _) (i:=5) rfl Yo _) ?_;refine Yr rfl hS0 (λ_ hS=>fT _ rfl Yf (hS 5 Yc)) ?_;refine Yk rfl (λ_=>bT (b:=decide (p 5=1)) _ _ rfl Yf (aI _ _) rfl _) ?_;refine Yj ?_;refine Yk rfl (λ_=>fQ _ _ rfl (a:=z) (n:=m) (cap:=mc) Yf (aI _ _) (i:=6) rfl Yo _) ?_;refine Yr rfl hS0 (λ_ hS=>fT _ rfl Yf (hS 6 Yc)) ?_;refine Yk rfl (λ_=>aEI (s:=axS p) _ _ _ _ _ _ _ rfl Yf Yf Yf Yf Yf Yf Yf _) ?_;refine dS rfl Yw (λK hK=>aW _ _ _ _ rfl jJ Yf Yf mr0 Yc (dU _) rfl (λw3 mm3 k3 z3=>hK _ (λh=>absurd h Yc) ?_));have mr3:=Vh.congr mm3 (rZ _ _);refine Yj ?_;refine fI<|aN<|aK YB (nO rfl Yf Yf jJ mr3 (Xr _)) ⟨?_,aF (aY (k1.trans (k2.mono Yo))) k3 Yo Yo⟩;unfold TQ;rw[hb];rfl
theorem wO(w:World):(zeroValue 32).run Tryz.prog w=.ok (aP (λj=>dK St.nil' (j%7)) 0 21) w:=Yl
theorem kI(g:Nat->Value)(h:Nat->Value):∀j,j<21->stP g 0 21 h j=h j:=λj hj=>by
 have:=mF g (o:=0) (n:=21) h hj
 rwa [Nat.zero_add] at this
theorem TN(a:Addr)(i k:Nat):(a.add i).add k=a.add (i+k):=by grind [Addr.add,Nat.add_assoc]
def nJ(v:Nat->Int)(a:Nat):St:=axS (λi=>v (7*a+i))
def kQ(v:Nat->Int):Bool:=mO (v 5) 1&&(mO (v 12) 1&&mO (v 19) 1)
def CG(v:Nat->Int)(x j:Nat):Value:=if j<7*x then dK (nJ v (j/7)) (j%7) else dK St.nil' (j%7)
theorem aCP(v:Nat->Int):∀j,j<21->dK St.nil' (j%7)=CG v 0 j:=λj _=>by unfold CG;rw[if_neg Yo]
variable{x:Nat}
theorem aCO(v:Nat->Int)(hb:mO (v (7*x+5)) 1=true):∀j,j<21->stP (CG v x) (0+x*7) 7 (dK (TQ (λi=>v (7*x+i)))) j=CG v (x+1) j:=by
 intro j _;unfold stP;by_cases c:0+x*7<=j/\j<0+x*7+7
 .rw[if_pos c];have e:TQ (λi=>v (7*x+i))=nJ v x:=by
   unfold TQ;exact if_pos hb
  rw[e];unfold CG;rw[if_pos Yo,show j/7=x by omega,show j%7=j-(0+x*7) by omega]
 .rw[if_neg c];unfold CG;by_cases c2:j<7*x
  .rw[if_pos c2,if_pos Yo]
  .rw[if_neg c2,if_neg Yo]
theorem YW(v:Nat->Int):∀j,j<21->CG v 3 j=dK (nJ v (j/7)) (j%7):=λj hj=>by unfold CG;rw[if_pos Yo]
variable{v:Nat->Int}
theorem aLq(hx:x<3)(hb:mO (v (7*x+5)) 1=false):kQ v=false:=by grind [kQ]
theorem aIg(h:∀a,a<3->mO (v (7*a+5)) 1=true):kQ v=true:=by
 unfold kQ;rw[show mO (v 5) 1=true from h 0 Yo,show mO (v 12) 1=true from h 1 Yo,show mO (v 19) 1=true from h 2 Yo];rfl
theorem VY(y:Addr)(yc:Nat)(v:Nat->Int)(w:World)(hc:24<=yc)(hy:∀i,i<24->w.cell? (y.add i)=some (.int .i64 (v i))):Calls Tryz.prog 227 #[.slice (some y) 24 yc] w λe w'=>e=.returned (.tuple #[aP (λj=>dK (if kQ v then nJ v (j/7) else St.nil') (j%7)) 0 21,.bool (kQ v)])/\Below w.heap.size w w':=by
 refine bB Tryz.func227 rfl 27 rfl Yd (λA hs hd hb=>?_);have b0:=hb 0 _ rfl;clear hb;refine aD (aG ?_);refine Za wO (λw1 m1 k1 z1=>?_);refine Yx ?_;refine aC<|aD<|Za wO (λw2 m2 k2 z2=>?_);have mr2:=m1.below k2;refine aC<|aH<|aD<|Yx ?_;refine aC<|aM<|cO (λq A W=>∃x:Nat,x<=3/\3-x<=q/\A.tmps.size=27/\A.defers=[]/\A.eval (.tmp 0)=.slice (some y) 24 yc/\A.eval (.tmp 2)=.pointer (some ⟨w.heap.size,0,none⟩)/\A.eval (.tmp 4)=.pointer (some ⟨w1.heap.size,0,none⟩)/\A.eval (.tmp 8)=.int .i64 (x:Int)/\(∀a,a<x->mO (v (7*a+5)) 1=true)/\Vh 32 W w.heap.size 21 21 (λj=>dK St.nil' (j%7))/\Vh 32 W w1.heap.size 21 21 (CG v x)/\Below w.heap.size w W/\w2.heap.size<=W.heap.size) 3 ⟨0,Yo,Yo,YA,YB,Yb,Yf,Yf,Yf,λa h=>absurd h Yo,mr2,Vh.congr m2 (aCP v),k1.trans (k2.mono Yo),Yo⟩ (λq B W hI2=>?_);clear b0 hs hd;obtain⟨x,hx,hr2,hs,hd,b0,b2,b4,b8,hok,mr,ml,kB,hW⟩:=hI2;by_cases hin:x<3
 .rcases hb:mO (v (7*x+5)) 1 with _|_
  .refine aD (aG ?_);refine Yx ?_;refine aC<|aH (aT Yf (aS ?_));refine aH (aM ?_);refine aD ?_;iterate 2 refine Yx ?_
   refine aC<|aD ?_;iterate 2 refine Yx ?_
   refine Yq (BI _ _ rfl Yf (aI _ _) Yo Yo _) ?_;refine Yq (Z6 (i:=7*x) _ _ rfl Yf Yf Yo Yo Yo _) ?_;refine bJ rfl Yw (λK hK=>?_);have C1:=CJ (y.add (7*x)) (24-7*x) (yc-7*x) (λi=>v (7*x+i)) W Yo (λi hi=>by rw[TN];exact aU (hy (7*x+i) Yo) kB);rw[hb] at C1;refine aX _ 256 _ _ rfl Yf (G6 _ _) C1 ?_;rintro e w11 ⟨rfl,k11⟩;have n11:=k11.size;have mr11:=mr.below k11;have ml11:=ml.below k11;refine⟨_,rfl,?_⟩;refine hK _ _ ?_;clear hK K;iterate 3 refine Yx ?_
   refine Za wP (λw12 m12 k12 z12=>?_);have mr12:=mr11.below k12;have ml12:=ml11.below k12;refine Zs jJ m12 (dU _) (λw13 mm13 k13 z13=>?_);have ms13:=Vh.congr mm13 (rZ _ _);have mr13:=mr12.kept k13 Yo;have ml13:=ml12.kept k13 Yo;refine Yx ?_;refine aC<|aH<|aD ?_;iterate 2 refine Yx ?_
   refine aC<|aT Yf ?_;refine aD<|Yq (JS rfl _) ?_;refine kV Yw (λK hK=>aW _ _ _ _ rfl fE Yb Yf mr13 Yc (λj _=>dU _ _ Yo) rfl (λw14 mm14 k14 z14=>hK _ ?_));have mr14:=Vh.congr mm14 (kI _ _);have ml14:=ml13.kept k14 Yo;have ms14:=ms13.kept k14 Yo;refine Yx ?_;refine aC<|aN ?_;simp only[Nx,Exit.inBlock,Exit.then];refine aK YB (nO rfl Yb Yf fE mr14 (Xr _)) ⟨?_,aF (aF ((kB.trans (k11.mono Yo)).trans (k12.mono Yo)) k13 Yo Yo) k14 Yo Yo⟩;rw[aLq hin hb];rfl
  .refine aD (aG ?_);refine Yx ?_;refine aC<|aH (aT Yf (aS ?_));refine aH (aM ?_);refine aD ?_;iterate 2 refine Yx ?_
   refine aC<|aD ?_;iterate 2 refine Yx ?_
   refine Yq (BI _ _ rfl Yf (aI _ _) Yo Yo _) ?_;refine Yq (Z6 (i:=7*x) _ _ rfl Yf Yf Yo Yo Yo _) ?_;refine bJ rfl Yw (λK hK=>?_);have C1:=CJ (y.add (7*x)) (24-7*x) (yc-7*x) (λi=>v (7*x+i)) W Yo (λi hi=>by rw[TN];exact aU (hy (7*x+i) Yo) kB);rw[hb] at C1;refine aX _ 256 _ _ rfl Yf (G6 _ _) C1 ?_;rintro e w11 ⟨rfl,k11⟩;have n11:=k11.size;have mr11:=mr.below k11;have ml11:=ml.below k11;refine⟨_,rfl,?_⟩;refine hK _ _ ?_;clear hK K;iterate 3 refine Yx ?_
   refine Za wP (λw12 m12 k12 z12=>?_);have mr12:=mr11.below k12;have ml12:=ml11.below k12;refine Zs jJ m12 (dU _) (λw13 mm13 k13 z13=>?_);have ms13:=Vh.congr mm13 (rZ _ _);have mr13:=mr12.kept k13 Yo;have ml13:=ml12.kept k13 Yo;refine Yx ?_;refine aC<|aH<|aD ?_;iterate 2 refine Yx ?_
   refine aC<|aQ Yf (aS ?_);refine aJ ?_;iterate 2 refine Yx ?_
   refine Yq (bQ _ _ _ _ rfl Tryz.underlying32 jJ.size Yb Yf rfl hin _) ?_;refine Zs jJ ml13 (dU _) (λw14 mm14 k14 z14=>?_);have ml14:=Vh.congr mm14 (aCO v hb);have mr14:=mr13.kept k14 Yo;have ms14:=ms13.kept k14 Yo;refine fG<|aJ ?_;iterate 2 refine Yx ?_
   exact bD ⟨3-(x+1),Yo,x+1,Yo,Yo,YA,YB,Yb,Yb,Yb,(Ye rfl).trans YC,(λa ha=>by
    by_cases e:a=x
    .rw[e];exact hb
    .exact hok a Yo),mr14,ml14,aF (aF ((kB.trans (k11.mono Yo)).trans (k12.mono Yo)) k13 Yo Yo) k14 Yo Yo,Yo⟩
 .refine aD (aG ?_);refine Yx ?_;obtain rfl:x=3:=Yo;have ml:=Vh.congr ml (YW v);refine aC<|aH (aQ Yf (bY (eY ?_)));refine aD<|Yx ?_;refine kV Yw (λK hK=>aW _ _ _ _ rfl fE Yb Yf mr Yc (λj _=>dU _ _ Yo) rfl (λw11 mm11 k11 z11=>hK _ ?_));have mr11:=Vh.congr mm11 (kI _ _);have ml11:=ml.kept k11 Yo;refine Yx ?_;refine aC<|aN (aK YB (nO rfl Yb Yf fE mr11 (Xr _)) ⟨?_,aF kB k11 Yo Yo⟩);rw[aIg hok];rfl
def F7(n:Int)(i:Nat):Int:=n/8^(3-i)%8
def CP(n:Int)(x i:Nat):Value:=iV (if 3-i<x then F7 n i else 0)
theorem aDc(n:Int):∀j,j<4->iV 0=CP n 0 j:=λj _=>by unfold CP;rw[if_neg Yo]
theorem aDb(n:Int)(hx:x<4):∀j,j<4->eQ (CP n x) (0+(3-x)*1) (.int .i64 (n/8^x%8)) j=CP n (x+1) j:=by
 intro j hj;unfold eQ;rw[show 0+(3-x)*1=3-x by omega];by_cases e:j=3-x
 .rw[if_pos e];unfold CP F7;rw[if_pos Yo,show 3-j=x by omega];rfl
 .rw[if_neg e];unfold CP;by_cases c:3-j<x
  .rw[if_pos c,if_pos Yo]
  .rw[if_neg c,if_neg Yo]
theorem aDa(n:Int):∀j,j<4->CP n 4 j=iV (F7 n j):=λj _=>by unfold CP;rw[if_pos Yo]
variable{n:Int}
theorem aKl:n/8^x/8=n/8^(x+1):=by
 rw[Int.ediv_ediv_of_nonneg (Int.pow_nonneg Yc),Int.pow_succ]
theorem aMt(h0:0<=n)(h1:n<=9223372036854775807)(x:Nat):0<=n/8^x/\n/8^x<=9223372036854775807:=
 ⟨Int.ediv_nonneg h0 (Int.pow_nonneg Yc),Int.le_trans (Int.ediv_le_self _ h0) h1⟩
theorem L6(n:Int)(w:World)(h0:0<=n)(h1:n<=9223372036854775807):Calls Tryz.prog 258 #[.int .i64 n] w λe w'=>e=.returned (aP (λi=>iV (F7 n i)) 0 4)/\Below w.heap.size w w':=by
 refine bB Tryz.func258 rfl 16 rfl Yd (λA hs hd hb=>?_);have b0:A.eval (.tmp 0)=.int .i64 n:=hb 0 _ rfl;clear hb;refine aD (aG ?_);refine Za FH (λw1 m1 k1 z1=>?_);refine aC<|aD<|Za FH (λw2 m2 k2 z2=>?_);have mr2:=m1.below k2;refine aC<|aH<|aD<|Yx ?_;refine aC<|aM<|cO (λq A W=>∃x:Nat,x<=4/\4-x<=q/\A.tmps.size=16/\A.defers=[]/\A.eval (.tmp 2)=.pointer (some ⟨w.heap.size,0,none⟩)/\A.eval (.tmp 3)=.pointer (some ⟨w1.heap.size,0,none⟩)/\A.eval (.tmp 0)=.int .i64 (n/8^x)/\A.eval (.tmp 4)=.int .i64 (3-(x:Int))/\Vh 34 W w.heap.size 4 4 (λ_=>iV 0)/\Vh 34 W w1.heap.size 4 4 (CP n x)/\Below w.heap.size w W/\w2.heap.size<=W.heap.size) 4 ⟨0,Yo,Yo,YA,YB,Yf,Yf,(vE rfl b0).trans (by rw[Int.pow_zero,Int.ediv_one]),Yf,mr2,Vh.congr m2 (aDc n),k1.trans (k2.mono Yo),Yo⟩ (λq B W hI2=>?_);clear b0 hs hd;obtain⟨x,hx,hr2,hs,hd,b2,b3,b0,b4,mr,ml,kB,hW⟩:=hI2;have hq:=aMt h0 h1 x;by_cases hin:x<4
 .refine aH<|aD (aG ?_);refine Yx ?_;refine Yq (fU (b:=true) _ _ rfl Yf (aI _ _) (Xt Yo) _) ?_;refine aC<|aT Yf (aS ?_);refine aH (aM ?_);refine aD ?_;iterate 2 refine Yx ?_
  refine Yq (aFj _ _ rfl Yf (aI _ _) hq.1 _) ?_;refine Yq (bQ (i:=3-x) _ _ _ _ rfl Tryz.underlying34 iZ.size Yb Yf Yo Yo _) ?_;refine kV Yw (λK hK=>kL _ _ _ _ rfl iZ Yf Yf ml Yo rfl rfl rfl (λw11 mm11 k11 z11=>hK _ ?_));have ml11:=Vh.congr mm11 (aDb n hin);have mr11:=mr.kept k11 Yo;refine aC<|aJ<|Yx ?_;refine Yq (aFi _ _ rfl Yf (aI _ _) hq.1 Yo _) ?_;refine Yx ?_;refine fG<|aJ<|Yx ?_;refine Yq (A8 _ _ rfl Yf (aI _ _) Yo Yo _) ?_;refine Yx ?_;exact bD ⟨4-(x+1),Yo,x+1,Yo,Yo,YA,YB,Yb,Yb,(Ye rfl).trans (by rw[aKl]),(Ye rfl).trans (by congr 1;omega),mr11,ml11,aF kB k11 Yo Yo,Yo⟩
 .refine aH<|aD (aG ?_);refine Yx ?_;refine Yq (fU (b:=false) _ _ rfl Yf (aI _ _) (Xf Yo) _) ?_;obtain rfl:x=4:=Yo;have ml:=Vh.congr ml (aDa n);refine aC<|aQ Yf (bY (eY ?_));refine aD<|Yq (aV _ _ rfl sJ Yb ml Yc) ?_;refine Zs sJ mr (λj hj=>rfl) (λw11 mm11 k11 z11=>?_);have mr11:=Vh.congr mm11 (fB _ _);have ml11:=ml.kept k11 Yo;refine aC<|aN (aK YB (qV rfl Yb sJ mr11 (Xr _)) ⟨rfl,aF kB k11 Yo Yo⟩)
theorem yK(x:Value)(w:World):(callFunc 192 #[x]).run Tryz.prog w=.ok (.enter 192 #[x]) w:=Yh
theorem MX(x y:Value)(w:World):(callFunc 133 #[x,y]).run Tryz.prog w=.ok (.enter 133 #[x,y]) w:=Yh
def jY(s m j:Int):Rl:=⟨λi=>decide (s/2^i%2=1),F7 m,F7 j⟩
def jS(s m j:Int):Bool:=mO s 15&&(mO m 4095&&mO j 4095)
def JP(s m j:Int)(x:Nat):Rl:=⟨λi=>if i<x then decide (s/2^i%2=1) else false,F7 m,F7 j⟩
theorem aED{s m j:Int}:JP s m j 0=⟨λ_=>false,F7 m,F7 j⟩:=by
 unfold JP
 congr 1
theorem aEC(s m j:Int)(hx:x<4):∀i,i<12->eQ (dF (JP s m j x)) (0+0+x*1) (.bool (decide (s/2^x%2=1))) i=dF (JP s m j (x+1)) i:=by unfold eQ dF JP;grind
theorem aEB(s m j:Int):∀i,i<12->dF (JP s m j 4) i=dF (jY s m j) i:=by unfold dF JP jY;grind
theorem aMS{s:Int}(h0:0<=s)(h1:s<=15)(x:Nat):0<=s/2^x/\s/2^x<=15:=
 ⟨Int.ediv_nonneg h0 (Int.pow_nonneg Yc),Int.le_trans (Int.ediv_le_self _ h0) h1⟩
theorem aGg(n:Int)(i:Nat):R64 (F7 n i):=by
 unfold F7 R64;omega
theorem LV{x l:Int}(h:mO x l=true):0<=x/\x<=l:=by
 unfold mO at h
 simpa using h
theorem DX(s m j:Int)(w:World):Calls Tryz.prog 228 #[.int .i64 s,.int .i64 m,.int .i64 j] w λe w'=>e=.returned (.tuple #[aP (dF (if jS s m j then jY s m j else dP)) 0 12,.bool (jS s m j&&mI (jY s m j))])/\Below w.heap.size w w':=by
 refine bB Tryz.func228 rfl 44 rfl Yd (λA hs hd hb=>?_);have b0:A.eval (.tmp 0)=.int .i64 s:=hb 0 _ rfl;have b1:A.eval (.tmp 1)=.int .i64 m:=hb 1 _ rfl;have b2:A.eval (.tmp 2)=.int .i64 j:=hb 2 _ rfl;clear hb;rcases h1:mO s 15 with _|_
 .refine aD (aG ?_);refine Za kM (λw1 m1 k1 z1=>?_);refine Yx ?_;refine aC<|aH<|aD<|Yx ?_;refine bJ rfl Yw (λK hK=>?_);have C2:=iA s 15 w1;rw[h1] at C2;refine dL _ 257 _ _ _ rfl Yf (aI _ _) (fM _ _ _) C2 ?_;rintro e w2 ⟨rfl,k2⟩;have n2:=k2.size;have mr2:=m1.below k2;refine⟨_,rfl,?_⟩;refine hK _ _ ?_;clear hK K;iterate 2 refine Yx ?_
  iterate 3 refine Yu ?_
  refine Yq (aO _ _ _ rfl Yf (aI _ _) _) ?_;refine Yx ?_;iterate 3 refine Yu ?_
  refine Yq (aO _ _ _ rfl Yf (aI _ _) _) ?_;refine aC<|aT Yf ?_;refine aD<|Yq (xK rfl _) ?_;refine Zs dM mr2 (fJ _) (λw3 mm3 k3 z3=>?_);have mr3:=Vh.congr mm3 (fH _ _);refine Yx ?_;refine aC<|aN ?_;simp only[Nx,Exit.then];refine aK YB (nO rfl Yf Yf dM mr3 (Xr _)) ⟨?_,aF ((k1).trans (k2.mono Yo)) k3 Yo Yo⟩;rw[show jS s m j=false by unfold jS;rw[h1];rfl];rfl
 .rcases h2:mO m 4095 with _|_
  .refine aD (aG ?_);refine Za kM (λw1 m1 k1 z1=>?_);refine Yx ?_;refine aC<|aH<|aD<|Yx ?_;refine bJ rfl Yw (λK hK=>?_);have C2:=iA s 15 w1;rw[h1] at C2;refine dL _ 257 _ _ _ rfl Yf (aI _ _) (fM _ _ _) C2 ?_;rintro e w2 ⟨rfl,k2⟩;have n2:=k2.size;have mr2:=m1.below k2;refine⟨_,rfl,?_⟩;refine hK _ _ ?_;clear hK K;iterate 3 refine Yx ?_
   refine bJ rfl (eH (j:=3) rfl rfl rfl Yf) (λK hK=>?_);have C3:=iA m 4095 w2;rw[h2] at C3;refine dL _ 257 _ _ _ rfl Yf (aI _ _) (fM _ _ _) C3 ?_;rintro e w3 ⟨rfl,k3⟩;have n3:=k3.size;have mr3:=mr2.below k3;refine⟨_,rfl,?_⟩;refine hK _ _ ?_;clear hK K;refine Yx ?_;refine Yq (aZ _ _ _ rfl Yf Yf _) ?_;refine Yx ?_;iterate 3 refine Yu ?_
   refine Yq (aO _ _ _ rfl Yf (aI _ _) _) ?_;refine aC<|aT Yf ?_;refine aD<|Yq (xK rfl _) ?_;refine Zs dM mr3 (fJ _) (λw4 mm4 k4 z4=>?_);have mr4:=Vh.congr mm4 (fH _ _);refine Yx ?_;refine aC<|aN ?_;simp only[Nx,Exit.then];refine aK YB (nO rfl Yf Yf dM mr4 (Xr _)) ⟨?_,aF (((k1).trans (k2.mono Yo)).trans (k3.mono Yo)) k4 Yo Yo⟩;rw[show jS s m j=false by unfold jS;rw[h1,h2];rfl];rfl
  .rcases h3:mO j 4095 with _|_
   .refine aD (aG ?_);refine Za kM (λw1 m1 k1 z1=>?_);refine Yx ?_;refine aC<|aH<|aD<|Yx ?_;refine bJ rfl Yw (λK hK=>?_);have C2:=iA s 15 w1;rw[h1] at C2;refine dL _ 257 _ _ _ rfl Yf (aI _ _) (fM _ _ _) C2 ?_;rintro e w2 ⟨rfl,k2⟩;have n2:=k2.size;have mr2:=m1.below k2;refine⟨_,rfl,?_⟩;refine hK _ _ ?_;clear hK K;iterate 3 refine Yx ?_
    refine bJ rfl (eH (j:=3) rfl rfl rfl Yf) (λK hK=>?_);have C3:=iA m 4095 w2;rw[h2] at C3;refine dL _ 257 _ _ _ rfl Yf (aI _ _) (fM _ _ _) C3 ?_;rintro e w3 ⟨rfl,k3⟩;have n3:=k3.size;have mr3:=mr2.below k3;refine⟨_,rfl,?_⟩;refine hK _ _ ?_;clear hK K;refine Yx ?_;refine Yq (aZ _ _ _ rfl Yf Yf _) ?_;iterate 2 refine Yx ?_
    refine bJ rfl (eH (j:=8) rfl rfl rfl Yf) (λK hK=>?_);have C4:=iA j 4095 w3;rw[h3] at C4;refine dL _ 257 _ _ _ rfl Yf (aI _ _) (fM _ _ _) C4 ?_;rintro e w4 ⟨rfl,k4⟩;have n4:=k4.size;have mr4:=mr3.below k4;refine⟨_,rfl,?_⟩;refine hK _ _ ?_;clear hK K;refine Yx ?_;refine Yq (aZ _ _ _ rfl Yf Yf _) ?_;refine aC<|aT Yf ?_;refine aD<|Yq (xK rfl _) ?_;refine Zs dM mr4 (fJ _) (λw5 mm5 k5 z5=>?_);have mr5:=Vh.congr mm5 (fH _ _);refine Yx ?_;refine aC<|aN ?_;simp only[Nx,Exit.then];refine aK YB (nO rfl Yf Yf dM mr5 (Xr _)) ⟨?_,aF ((((k1).trans (k2.mono Yo)).trans (k3.mono Yo)).trans (k4.mono Yo)) k5 Yo Yo⟩;rw[show jS s m j=false by unfold jS;rw[h1,h2,h3];rfl];rfl
   .obtain⟨hs0,hs1⟩:=LV h1;obtain⟨hm0,hm1⟩:=LV h2;obtain⟨hj0,hj1⟩:=LV h3;refine aD (aG ?_);refine Za kM (λw1 m1 k1 z1=>?_);refine Yx ?_;refine aC<|aH<|aD<|Yx ?_;refine bJ rfl Yw (λK hK=>?_);have C2:=iA s 15 w1;rw[h1] at C2;refine dL _ 257 _ _ _ rfl Yf (aI _ _) (fM _ _ _) C2 ?_;rintro e w2 ⟨rfl,k2⟩;have n2:=k2.size;have mr2:=m1.below k2;refine⟨_,rfl,?_⟩;refine hK _ _ ?_;clear hK K;iterate 3 refine Yx ?_
    refine bJ rfl (eH (j:=3) rfl rfl rfl Yf) (λK hK=>?_);have C3:=iA m 4095 w2;rw[h2] at C3;refine dL _ 257 _ _ _ rfl Yf (aI _ _) (fM _ _ _) C3 ?_;rintro e w3 ⟨rfl,k3⟩;have n3:=k3.size;have mr3:=mr2.below k3;refine⟨_,rfl,?_⟩;refine hK _ _ ?_;clear hK K;refine Yx ?_;refine Yq (aZ _ _ _ rfl Yf Yf _) ?_;iterate 2 refine Yx ?_
    refine bJ rfl (eH (j:=8) rfl rfl rfl Yf) (λK hK=>?_);have C4:=iA j 4095 w3;rw[h3] at C4;refine dL _ 257 _ _ _ rfl Yf (aI _ _) (fM _ _ _) C4 ?_;rintro e w4 ⟨rfl,k4⟩;have n4:=k4.size;have mr4:=mr3.below k4;refine⟨_,rfl,?_⟩;refine hK _ _ ?_;clear hK K;refine Yx ?_;refine Yq (aZ _ _ _ rfl Yf Yf _) ?_;refine aC<|aQ Yf (aS ?_);refine aD<|Yx ?_;refine bJ rfl Yw (λK hK=>aX _ 258 _ _ rfl Yf (wY _ _) (L6 m _ Yo Yo) ?_);rintro e w5 ⟨rfl,k5⟩;have n5:=k5.size;have mr5:=mr4.below k5;refine⟨_,rfl,hK _ _ ?_⟩;refine Yx ?_;refine bJ rfl Yw (λK hK=>aX _ 258 _ _ rfl Yf (wY _ _) (L6 j _ Yo Yo) ?_);rintro e w6 ⟨rfl,k6⟩;have n6:=k6.size;have mr6:=mr5.below k6;refine⟨_,rfl,hK _ _ ?_⟩;refine Yq (aBv _ _ rfl Yf Yf _) ?_;refine Za kM (λw7 m7 k7 z7=>?_);have mr7:=mr6.below k7;refine Zs dM m7 (fJ _) (λw8 mm8 k8 z8=>?_);have mp8:=Vh.congr mm8 (fH _ _);have mr8:=mr7.kept k8 Yo;refine aC<|aH<|aD<|Yx ?_;refine aC<|aM<|cO (λq A W=>∃x:Nat,x<=4/\4-x<=q/\A.tmps.size=44/\A.defers=[]/\A.eval (.tmp 0)=.int .i64 s/\A.eval (.tmp 6)=.pointer (some ⟨w.heap.size,0,none⟩)/\A.eval (.tmp 8)=.pointer (some ⟨w6.heap.size,0,none⟩)/\A.eval (.tmp 29)=.int .i64 (x:Int)/\Vh 36 W w.heap.size 12 12 (dF dP)/\Vh 36 W w6.heap.size 12 12 (dF (JP s m j x))/\Below w.heap.size w W/\w8.heap.size<=W.heap.size) 4 ⟨0,Yo,Yo,YA,YB,Yb,Yf,Yf,Yf,mr8,by rw[aED];exact mp8,aF (((((((k1).trans (k2.mono Yo)).trans (k3.mono Yo)).trans (k4.mono Yo)).trans (k5.mono Yo)).trans (k6.mono Yo)).trans (k7.mono Yo)) k8 Yo Yo,Yo⟩ (λq B W hI2=>?_);clear b0 b1 b2 hs hd;obtain⟨x,hx,hr2,hs,hd,b0,b6,b8,b29,mr,mp,kB,hW⟩:=hI2;by_cases hin:x<4
    .have hsx:=aMS hs0 hs1 x;refine aD (aG ?_);refine Yx ?_;refine aC<|aH (aT Yf (aS ?_));refine aH (aM ?_);refine aD ?_;iterate 2 refine Yx ?_
     refine aC<|aJ ?_;iterate 3 refine Yx ?_
     refine Yq (aFl _ _ rfl Yf Yf Yo _) ?_;refine Yq (aEG _ _ rfl Yf (aI _ _) hsx.1 hsx.2 _) ?_;refine Yq (bT (b:=decide (s/2^x%2=1)) _ _ rfl Yf (aI _ _) rfl _) ?_;refine Yx ?_;refine Yq (bQ _ _ _ _ rfl Tryz.underlying33 tX.size Yf Yf rfl hin _) ?_;refine kV Yw (λK hK=>kL _ _ _ _ rfl tX Yf Yf mp Yo rfl rfl rfl (λw11 mm11 k11 z11=>hK _ ?_));have mp11:=Vh.congr mm11 (aEC s m j hin);have mr11:=mr.kept k11 Yo;refine fG<|aJ ?_;iterate 2 refine Yx ?_
     exact bD ⟨4-(x+1),Yo,x+1,Yo,Yo,YA,YB,Yb,Yb,Yb,(Ye rfl).trans YC,mr11,mp11,aF kB k11 Yo Yo,Yo⟩
    .refine aD (aG ?_);refine Yx ?_;obtain rfl:x=4:=Yo;have mp:=Vh.congr mp (aEB s m j);refine aC<|aH (aQ Yf (bY (eY ?_)));refine aH ?_;have hS0:(λZ=>Vh 36 Z w6.heap.size 12 12 (dF (jY s m j))) W.drew:=mp;have mr0:Vh _ W.drew _ _ _ _:=mr;have mp0:Vh _ W.drew _ _ _ _:=mp;have ez:W.drew.heap.size=W.heap.size:=rfl;refine eU (S:=λZ=>Vh 36 Z w6.heap.size 12 12 (dF (jY s m j))) (.rd 0 (.rd 1 (.go 2 (.go 3 (.mv 4 .fin))))) [] Yl Yl ?_;refine Yr rfl hS0 (λ_ hS=>aV _ _ rfl dM Yb hS Yc) ?_;refine Yr rfl hS0 (λ_ hS=>aV _ _ rfl dM Yb hS Yc) ?_;refine bR rfl rfl Yw (λK hK=>aX _ 189 _ _ rfl Yf (MW _ _) (G9 (jY s m j) _ (λi _=>⟨aGg _ _,aGg _ _⟩)) ?_);rintro e w11 ⟨rfl,k11⟩;have n11:=k11.size;have mr11:=mr0.below k11;have mp11:=hS0.below k11;have hS11:(λZ=>Vh 36 Z w6.heap.size 12 12 (dF (jY s m j))) w11:=mp11;refine⟨_,rfl,hK _ _ (λ_ _=>hS11) ?_⟩;refine dS rfl Yw (λK hK=>?_);refine aW _ _ _ _ rfl dM Yb Yf mr11 Yc (fJ _) rfl ?_;intro w12 mm12 k12 z12;have mr12:=Vh.congr mm12 (fH _ _);have mp12:=mp11.kept k12 Yo;have hS12:(λZ=>Vh 36 Z w6.heap.size 12 12 (dF (jY s m j))) w12:=mp12;refine hK _ (λ_ _=>hS12) ?_;clear hK K;refine Yj ?_;refine fI<|aN<|aK YB (nO rfl Yb Yf dM mr12 (Xr _)) ⟨?_,aF ((aY kB).trans (k11.mono Yo)) k12 Yo Yo⟩;rw[show jS s m j=true by unfold jS;rw[h1,h2,h3];rfl,Bool.true_and];rfl
theorem yT{P:Program}{fn:Func}{p p' p2:Nat}{ty ty':TypeId}{b' n n' N N' cap cap':Nat}{t':TypeId}{g g':Nat->Value}{v:Value}(h:fn.results=#[.cell p ty,.cell p' ty',.tmp p2])(hv:a.eval (.tmp p)=.pointer (some ⟨b,0,none⟩))(hv':a.eval (.tmp p')=.pointer (some ⟨b',0,none⟩))(h2:a.eval (.tmp p2)=v)(T:Many P ty n)(T':Many P ty' n')(hm:Vh t w b N cap g)(hn:n<=N)(hm':Vh t' w b' N' cap' g')(hn':n'<=N'):(results fn a.tmps).run P w=.ok (.tuple #[aP g 0 n,aP g' 0 n',v]) w:=by
 have e:=jL hv;have e2:=jL hv';have e3:=jL h2;simp only[Array.getD_eq_getD_getElem?] at e e2 e3;simp[results,h,e,e2,e3,asAddr,nP T hm hn,nP T' hm' hn']
theorem aLV(v:List Int):unOK v=(kQ (gL v)&&(jS (gL v 21) (gL v 22) (gL v 23)&&mI (jY (gL v 21) (gL v 22) (gL v 23)))):=by
 have e:mI (unR v)=mI (jY (gL v 21) (gL v 22) (gL v 23)):=rfl;unfold unOK kQ jS mO;rw[e,show (List.range 3).all (λa=>decide (0<=v.getD (7*a+5) 0)&&decide (v.getD (7*a+5) 0<=1))=((decide (0<=gL v 5)&&decide (gL v 5<=1))&&((decide (0<=gL v 12)&&decide (gL v 12<=1))&&((decide (0<=gL v 19)&&decide (gL v 19<=1))&&true))) from rfl];show (_&&decide (0<=gL v 21)&&decide (gL v 21<=15)&&decide (0<=gL v 22)&&decide (gL v 22<=4095)&&decide (0<=gL v 23)&&decide (gL v 23<=4095)&&_)=_
 simp only[Bool.and_true,Bool.and_assoc]
variable{v:List Int}
theorem xR(hl:v.length=24):(decide (v.length=24)&&unOK v)=(kQ (gL v)&&(jS (gL v 21) (gL v 22) (gL v 23)&&mI (jY (gL v 21) (gL v 22) (gL v 23)))):=by
 rw[Xt hl,Bool.true_and,aLV]
theorem aLU(h:kQ (gL v)=true){a:Nat}(ha:a<3):nJ (gL v) a=unA v a:=by
 have hb:mO (gL v (7*a+5)) 1=true:=by
  unfold kQ at h;simp only[Bool.and_eq_true] at h
  match a,ha with
  |0,_=>exact h.1
  |1,_=>exact h.2.1
  |2,_=>exact h.2.2
 obtain⟨h0,h1⟩:=LV hb;have e:decide (gL v (7*a+5)=1)=decide (0<v.getD (7*a+5) 0):=by
  show decide (gL v (7*a+5)=1)=decide (0<gL v (7*a+5))
  exact decide_eq_decide.2 Yo
 unfold nJ axS unA;dsimp only;rw[e];rfl
theorem AA(v:List Int)(to:Option Addr)(tc:Nat)(w:World)(hsr:Sr w to v.length tc (iF (gL v)))(htl:v.length<=tc):Calls Tryz.prog 192 #[.slice to v.length tc] w λe w'=>∃fx fr:Nat->Value,e=.returned (.tuple #[aP fx 0 21,aP fr 0 12,.bool (decide (v.length=24)&&unOK v)])/\(∀j,j<21->(fx j).oneCell'=true)/\(∀j,j<12->(fr j).oneCell'=true)/\((decide (v.length=24)&&unOK v)=true->(∀i,i<21->fx i=dK (unA v (i/7)) (i%7))/\∀i,i<12->fr i=dF (unR v) i)/\Below w.heap.size w w':=by
 refine bB Tryz.func192 rfl 38 rfl Yd (λA hs hd hb=>?_);have b0:A.eval (.tmp 0)=.slice to v.length tc:=hb 0 _ rfl;clear hb;by_cases hne:((v.length:Nat):Int)≠24
 .rw[Xf (show ¬v.length=24 by omega),Bool.false_and];refine aD (aG ?_);refine Za wO (λw1 m1 k1 z1=>?_);refine Za kM (λw2 m2 k2 z2=>?_);have ma2:=m1.below k2;refine Yx ?_;refine aC<|aH<|aD ?_;iterate 2 refine Yx ?_
  refine Yq (dC (b:=true) _ _ rfl Yf (aI _ _) (Xt hne) _) ?_;refine aC<|aT Yf ?_;refine aD<|Yq (JS rfl _) ?_;refine Yq (xK rfl _) ?_;refine kV Yw (λK hK=>aW _ _ _ _ rfl fE Yf Yf ma2 Yc (λj _=>dU _ _ Yo) rfl (λw3 mm3 k3 z3=>hK _ ?_));have ma3:=Vh.congr mm3 (kI _ _);have mb3:=m2.kept k3 Yo;refine Zs dM mb3 (fJ _) (λw4 mm4 k4 z4=>?_);have mb4:=Vh.congr mm4 (fH _ _);have ma4:=ma3.kept k4 Yo;refine Yx ?_;refine aC<|aN ?_;simp only[Nx,Exit.then];refine aK YB (yT rfl Yf Yf Yf fE dM ma4 (Xr _) mb4 (Xr _)) ⟨_,_,rfl,(λj _=>dU _ _ Yo),fJ _,λh=>absurd h Yc,aF (aF (k1.trans (k2.mono Yo)) k3 Yo Yo) k4 Yo Yo⟩
 .have hl:v.length=24:=Yo;have htc:24<=tc:=Yo;obtain⟨y,rfl,hy⟩:∃y,to=some y/\∀i,i<24->w.cell? (y.add i)=some (.int .i64 (gL v i)):=by
   rcases hsr with ⟨_,e,_⟩|⟨y,e,hc⟩
   .omega
   .exact⟨y,e,λi hi=>hc i Yo⟩
  refine aD (aG ?_);refine Za wO (λw1 m1 k1 z1=>?_);refine Za kM (λw2 m2 k2 z2=>?_);have ma2:=m1.below k2;refine Yx ?_;refine aC<|aH<|aD ?_;iterate 2 refine Yx ?_
  refine Yq (dC (b:=false) _ _ rfl Yf (aI _ _) (Xf (λe=>e (by rw[hl];rfl))) _) ?_;refine aC<|aQ Yf (aS ?_);refine aD<|Yx ?_;refine bJ rfl Yw (λK hK=>?_);have C3:=VY y tc (gL v) w2 htc (λi hi=>aU (hy i hi) (k1.trans (k2.mono Yo)));rw[<-hl] at C3;refine aX _ 227 _ _ rfl Yf (KQ _ _) C3 ?_;rintro e w3 ⟨rfl,k3⟩;have n3:=k3.size;have ma3:=ma2.below k3;have mb3:=m2.below k3;refine⟨_,rfl,?_⟩;refine hK _ _ ?_;clear hK K;iterate 3 refine Yx ?_
  refine Za wO (λw4 m4 k4 z4=>?_);have ma4:=ma3.below k4;have mb4:=mb3.below k4;refine kV Yw (λK hK=>aW _ _ _ _ rfl fE Yf Yf m4 Yc (λj _=>dU _ _ Yo) rfl (λw5 mm5 k5 z5=>hK _ ?_));have mx5:=Vh.congr mm5 (kI _ _);have ma5:=ma4.kept k5 Yo;have mb5:=mb4.kept k5 Yo;refine Yx ?_;refine aC<|aH ?_;have kA:Below w.heap.size w w5.drew:=aY (aF ((((k1).trans (k2.mono Yo)).trans (k3.mono Yo)).trans (k4.mono Yo)) k5 Yo Yo);have hS0:(λZ=>∀i,i<24->Z.cell? (y.add i)=some (.int .i64 (gL v i))) w5.drew:=λi hi=>aU (hy i hi) kA
  have ma0:Vh _ w5.drew _ _ _ _:=ma5;have mb0:Vh _ w5.drew _ _ _ _:=mb5;have mx0:Vh _ w5.drew _ _ _ _:=mx5;have ez:w5.drew.heap.size=w5.heap.size:=rfl;refine eU (S:=λZ=>∀i,i<24->Z.cell? (y.add i)=some (.int .i64 (gL v i))) (.mv 0 (.mv 1 (.rd 2 (.mv 3 (.mv 4 (.rd 5 (.mv 6 (.mv 7 (.rd 8 (.two 9 13 (.mv 10 (.mv 11 (.mv 12 (.go 13 (.go 14 (.mv 15 .fin)))))) (.go 9 (.mv 10 (.mv 11 (.mv 12 (.go 14 (.mv 15 .fin)))))))))))))))) [14] Yl Yl ?_;refine Yj ?_;refine Yk rfl (λ_=>fQ _ _ rfl (a:=y) (n:=v.length) (cap:=tc) Yf (aI _ _) (i:=21) rfl Yo _) ?_;refine Yr rfl hS0 (λ_ hS=>fT _ rfl Yf (hS 21 Yc)) ?_;refine Yj ?_;refine Yk rfl (λ_=>fQ _ _ rfl (a:=y) (n:=v.length) (cap:=tc) Yf (aI _ _) (i:=22) rfl Yo _) ?_;refine Yr rfl hS0 (λ_ hS=>fT _ rfl Yf (hS 22 Yc)) ?_;refine Yj ?_;refine Yk rfl (λ_=>fQ _ _ rfl (a:=y) (n:=v.length) (cap:=tc) Yf (aI _ _) (i:=23) rfl Yo _) ?_;refine Yr rfl hS0 (λ_ hS=>fT _ rfl Yf (hS 23 Yc)) ?_;refine LM ?_ ?_
  .refine bR rfl rfl Yw (λK hK=>gT _ 228 _ _ _ _ rfl Yf Yf Yf (G7 _ _ _ _) (DX (gL v 21) (gL v 22) (gL v 23) _) ?_);rintro e w6 ⟨rfl,k6⟩;have n6:=k6.size;have ma6:=ma0.below k6;have mb6:=mb0.below k6;have mx6:=mx0.below k6;have hS6:(λZ=>∀i,i<24->Z.cell? (y.add i)=some (.int .i64 (gL v i))) w6:=λi hi=>aU (hS0 i hi) k6
   refine⟨_,rfl,hK _ _ (λ_ _=>hS6) ?_⟩;refine Yj ?_;refine Yk rfl (λ_=>rV _ rfl Yf _) ?_;refine Yk rfl (λ_=>rW _ rfl Yf _) ?_;refine bR rfl rfl Yw (λK hK=>?_);refine gQ _ _ rfl kM Yd ?_;intro w7 m7 k7 z7;have ma7:=ma6.below k7;have mb7:=mb6.below k7;have mx7:=mx6.below k7;have hS7:(λZ=>∀i,i<24->Z.cell? (y.add i)=some (.int .i64 (gL v i))) w7:=λi hi=>aU (hS6 i hi) k7
   refine hK _ _ (λ_ _=>hS7) ?_;clear hK K;refine dS rfl Yw (λK hK=>aW _ _ _ _ rfl dM (f:=dF (if jS (gL v 21) (gL v 22) (gL v 23) then jY (gL v 21) (gL v 22) (gL v 23) else dP)) Yf Yf m7 Yc (fJ _) rfl (λw8 mm8 k8 z8=>hK _ (λh=>absurd h Yc) ?_));have mp8:=Vh.congr mm8 (fH _ _);have ma8:=ma7.kept k8 Yo;have mb8:=mb7.kept k8 Yo;have mx8:=mx7.kept k8 Yo;refine Yj ?_;refine fI<|aH ?_;have kB:Below w.heap.size w w8.drew:=aY (aF ((kA.trans (k6.mono Yo)).trans (k7.mono Yo)) k8 Yo Yo);have hS0:(λZ=>Vh 32 Z w3.heap.size 21 21 (λi=>dK (if kQ (gL v) then nJ (gL v) (i/7) else St.nil') (i%7))/\Vh 36 Z (w6.heap.size) 12 12 (dF (if jS (gL v 21) (gL v 22) (gL v 23) then jY (gL v 21) (gL v 22) (gL v 23) else dP))) w8.drew:=⟨mx8,mp8⟩;have ma0:Vh _ w8.drew _ _ _ _:=ma8;have mb0:Vh _ w8.drew _ _ _ _:=mb8;have mx0:Vh _ w8.drew _ _ _ _:=mx8;have mp0:Vh _ w8.drew _ _ _ _:=mp8;have ez:w8.drew.heap.size=w8.heap.size:=rfl;rcases hoa:kQ (gL v) with _|_
   .refine eU (S:=λZ=>Vh 32 Z w3.heap.size 21 21 (λi=>dK (if kQ (gL v) then nJ (gL v) (i/7) else St.nil') (i%7))/\Vh 36 Z (w6.heap.size) 12 12 (dF (if jS (gL v 21) (gL v 22) (gL v 23) then jY (gL v 21) (gL v 22) (gL v 23) else dP))) (.rd 0 (.rd 1 (.mv 2 (.mv 3 (.mv 4 (.mv 5 (.go 6 (.go 7 (.mv 8 .fin))))))))) [] Yl Yl ?_;refine Yr rfl hS0 (λ_ hS=>aV _ _ rfl fE Yf hS.1 Yc) ?_;refine Yr rfl hS0 (λ_ hS=>aV _ _ rfl dM Yf hS.2 Yc) ?_;iterate 2 refine Yj ?_
    refine aAz rfl rfl (λ_ _ _ h=>h) (E9 (j:=3) rfl rfl rfl Yf Yc) ?_;refine Yk rfl (λ_=>aZ _ _ _ rfl Yf (aI _ _) _) ?_;refine dS rfl Yw (λK hK=>?_);refine aW _ _ _ _ rfl fE Yf Yf ma0 Yc (λj _=>dU _ _ Yo) rfl ?_;intro w9 mm9 k9 z9;have ma9:=Vh.congr mm9 (kI _ _);have mb9:=mb0.kept k9 Yo;have mx9:=mx0.kept k9 Yo;have mp9:=mp0.kept k9 Yo;have hS9:(λZ=>Vh 32 Z w3.heap.size 21 21 (λi=>dK (if kQ (gL v) then nJ (gL v) (i/7) else St.nil') (i%7))/\Vh 36 Z (w6.heap.size) 12 12 (dF (if jS (gL v 21) (gL v 22) (gL v 23) then jY (gL v 21) (gL v 22) (gL v 23) else dP))) w9:=⟨mx9,mp9⟩;refine hK _ (λ_ _=>hS9) ?_;clear hK K;refine dS rfl Yw (λK hK=>?_);refine aW _ _ _ _ rfl dM Yf Yf mb9 Yc (fJ _) rfl ?_;intro w10 mm10 k10 z10;have mb10:=Vh.congr mm10 (fH _ _);have ma10:=ma9.kept k10 Yo;have mx10:=mx9.kept k10 Yo;have mp10:=mp9.kept k10 Yo;have hS10:(λZ=>Vh 32 Z w3.heap.size 21 21 (λi=>dK (if kQ (gL v) then nJ (gL v) (i/7) else St.nil') (i%7))/\Vh 36 Z (w6.heap.size) 12 12 (dF (if jS (gL v 21) (gL v 22) (gL v 23) then jY (gL v 21) (gL v 22) (gL v 23) else dP))) w10:=⟨mx10,mp10⟩;refine hK _ (λ_ _=>hS10) ?_;clear hK K;refine Yj ?_;refine fI<|aN<|aK YB (yT rfl Yf Yf Yf fE dM ma10 (Xr _) mb10 (Xr _)) ⟨(λi=>dK (if kQ (gL v) then nJ (gL v) (i/7) else St.nil') (i%7)),dF (if jS (gL v 21) (gL v 22) (gL v 23) then jY (gL v 21) (gL v 22) (gL v 23) else dP),?_,(λj _=>dU _ _ Yo),fJ _,?_,aF (aF kB k9 Yo Yo) k10 Yo Yo⟩
    .rw[xR hl,hoa];rfl
    .intro h;rw[xR hl,hoa] at h
     cases h
   .refine eU (S:=λZ=>Vh 32 Z w3.heap.size 21 21 (λi=>dK (if kQ (gL v) then nJ (gL v) (i/7) else St.nil') (i%7))/\Vh 36 Z (w6.heap.size) 12 12 (dF (if jS (gL v 21) (gL v 22) (gL v 23) then jY (gL v 21) (gL v 22) (gL v 23) else dP))) (.rd 0 (.rd 1 (.mv 2 (.mv 3 (.mv 4 (.mv 5 (.go 6 (.go 7 (.mv 8 .fin))))))))) [] Yl Yl ?_;refine Yr rfl hS0 (λ_ hS=>aV _ _ rfl fE Yf hS.1 Yc) ?_;refine Yr rfl hS0 (λ_ hS=>aV _ _ rfl dM Yf hS.2 Yc) ?_;iterate 3 refine Yj ?_
    refine Yk rfl (λ_=>aO _ _ _ rfl Yf Yf _) ?_;refine dS rfl Yw (λK hK=>?_);refine aW _ _ _ _ rfl fE Yf Yf ma0 Yc (λj _=>dU _ _ Yo) rfl ?_;intro w9 mm9 k9 z9;have ma9:=Vh.congr mm9 (kI _ _);have mb9:=mb0.kept k9 Yo;have mx9:=mx0.kept k9 Yo;have mp9:=mp0.kept k9 Yo;have hS9:(λZ=>Vh 32 Z w3.heap.size 21 21 (λi=>dK (if kQ (gL v) then nJ (gL v) (i/7) else St.nil') (i%7))/\Vh 36 Z (w6.heap.size) 12 12 (dF (if jS (gL v 21) (gL v 22) (gL v 23) then jY (gL v 21) (gL v 22) (gL v 23) else dP))) w9:=⟨mx9,mp9⟩;refine hK _ (λ_ _=>hS9) ?_;clear hK K;refine dS rfl Yw (λK hK=>?_);refine aW _ _ _ _ rfl dM Yf Yf mb9 Yc (fJ _) rfl ?_;intro w10 mm10 k10 z10;have mb10:=Vh.congr mm10 (fH _ _);have ma10:=ma9.kept k10 Yo;have mx10:=mx9.kept k10 Yo;have mp10:=mp9.kept k10 Yo;have hS10:(λZ=>Vh 32 Z w3.heap.size 21 21 (λi=>dK (if kQ (gL v) then nJ (gL v) (i/7) else St.nil') (i%7))/\Vh 36 Z (w6.heap.size) 12 12 (dF (if jS (gL v 21) (gL v 22) (gL v 23) then jY (gL v 21) (gL v 22) (gL v 23) else dP))) w10:=⟨mx10,mp10⟩;refine hK _ (λ_ _=>hS10) ?_;clear hK K;refine Yj ?_;refine fI<|aN<|aK YB (yT rfl Yf Yf Yf fE dM ma10 (Xr _) mb10 (Xr _)) ⟨(λi=>dK (if kQ (gL v) then nJ (gL v) (i/7) else St.nil') (i%7)),dF (if jS (gL v 21) (gL v 22) (gL v 23) then jY (gL v 21) (gL v 22) (gL v 23) else dP),?_,(λj _=>dU _ _ Yo),fJ _,?_,aF (aF kB k9 Yo Yo) k10 Yo Yo⟩
    .rw[xR hl,hoa];rfl
    .intro h;rw[xR hl,hoa,Bool.true_and,Bool.and_eq_true] at h;refine⟨λi _=>?_,?_⟩
     .dsimp only;rw[if_pos hoa,aLU hoa Yo]
     .intro i _;rw[if_pos h.1];rfl
  .refine bR rfl rfl Yw (λK hK=>?_);refine gQ _ _ rfl kM Yd ?_;intro w6 m6 k6 z6;have ma6:=ma0.below k6;have mb6:=mb0.below k6;have mx6:=mx0.below k6;have hS6:(λZ=>∀i,i<24->Z.cell? (y.add i)=some (.int .i64 (gL v i))) w6:=λi hi=>aU (hS0 i hi) k6
   refine hK _ _ (λ_ _=>hS6) ?_;clear hK K;refine bR rfl rfl Yw (λK hK=>gT _ 228 _ _ _ _ rfl Yf Yf Yf (G7 _ _ _ _) (DX (gL v 21) (gL v 22) (gL v 23) _) ?_);rintro e w7 ⟨rfl,k7⟩;have n7:=k7.size;have ma7:=ma6.below k7;have mb7:=mb6.below k7;have mx7:=mx6.below k7;have mp7:=m6.below k7;have hS7:(λZ=>∀i,i<24->Z.cell? (y.add i)=some (.int .i64 (gL v i))) w7:=λi hi=>aU (hS6 i hi) k7
   refine⟨_,rfl,hK _ _ (λ_ _=>hS7) ?_⟩;refine Yj ?_;refine Yk rfl (λ_=>rV _ rfl Yf _) ?_;refine Yk rfl (λ_=>rW _ rfl Yf _) ?_;refine dS rfl Yw (λK hK=>aW _ _ _ _ rfl dM (f:=dF (if jS (gL v 21) (gL v 22) (gL v 23) then jY (gL v 21) (gL v 22) (gL v 23) else dP)) Yf Yf mp7 Yc (fJ _) rfl (λw8 mm8 k8 z8=>hK _ (λh=>absurd h Yc) ?_));have mp8:=Vh.congr mm8 (fH _ _);have ma8:=ma7.kept k8 Yo;have mb8:=mb7.kept k8 Yo;have mx8:=mx7.kept k8 Yo;refine Yj ?_;refine fI<|aH ?_;have kB:Below w.heap.size w w8.drew:=aY (aF ((kA.trans (k6.mono Yo)).trans (k7.mono Yo)) k8 Yo Yo);have hS0:(λZ=>Vh 32 Z w3.heap.size 21 21 (λi=>dK (if kQ (gL v) then nJ (gL v) (i/7) else St.nil') (i%7))/\Vh 36 Z (w5.drew.heap.size) 12 12 (dF (if jS (gL v 21) (gL v 22) (gL v 23) then jY (gL v 21) (gL v 22) (gL v 23) else dP))) w8.drew:=⟨mx8,mp8⟩;have ma0:Vh _ w8.drew _ _ _ _:=ma8;have mb0:Vh _ w8.drew _ _ _ _:=mb8;have mx0:Vh _ w8.drew _ _ _ _:=mx8;have mp0:Vh _ w8.drew _ _ _ _:=mp8;have ez:w8.drew.heap.size=w8.heap.size:=rfl;rcases hoa:kQ (gL v) with _|_
   .refine eU (S:=λZ=>Vh 32 Z w3.heap.size 21 21 (λi=>dK (if kQ (gL v) then nJ (gL v) (i/7) else St.nil') (i%7))/\Vh 36 Z (w5.drew.heap.size) 12 12 (dF (if jS (gL v 21) (gL v 22) (gL v 23) then jY (gL v 21) (gL v 22) (gL v 23) else dP))) (.rd 0 (.rd 1 (.mv 2 (.mv 3 (.mv 4 (.mv 5 (.go 6 (.go 7 (.mv 8 .fin))))))))) [] Yl Yl ?_;refine Yr rfl hS0 (λ_ hS=>aV _ _ rfl fE Yf hS.1 Yc) ?_;refine Yr rfl hS0 (λ_ hS=>aV _ _ rfl dM Yf hS.2 Yc) ?_;iterate 2 refine Yj ?_
    refine aAz rfl rfl (λ_ _ _ h=>h) (E9 (j:=3) rfl rfl rfl Yf Yc) ?_;refine Yk rfl (λ_=>aZ _ _ _ rfl Yf (aI _ _) _) ?_;refine dS rfl Yw (λK hK=>?_);refine aW _ _ _ _ rfl fE Yf Yf ma0 Yc (λj _=>dU _ _ Yo) rfl ?_;intro w9 mm9 k9 z9;have ma9:=Vh.congr mm9 (kI _ _);have mb9:=mb0.kept k9 Yo;have mx9:=mx0.kept k9 Yo;have mp9:=mp0.kept k9 Yo;have hS9:(λZ=>Vh 32 Z w3.heap.size 21 21 (λi=>dK (if kQ (gL v) then nJ (gL v) (i/7) else St.nil') (i%7))/\Vh 36 Z (w5.drew.heap.size) 12 12 (dF (if jS (gL v 21) (gL v 22) (gL v 23) then jY (gL v 21) (gL v 22) (gL v 23) else dP))) w9:=⟨mx9,mp9⟩;refine hK _ (λ_ _=>hS9) ?_;clear hK K;refine dS rfl Yw (λK hK=>?_);refine aW _ _ _ _ rfl dM Yf Yf mb9 Yc (fJ _) rfl ?_;intro w10 mm10 k10 z10;have mb10:=Vh.congr mm10 (fH _ _);have ma10:=ma9.kept k10 Yo;have mx10:=mx9.kept k10 Yo;have mp10:=mp9.kept k10 Yo;have hS10:(λZ=>Vh 32 Z w3.heap.size 21 21 (λi=>dK (if kQ (gL v) then nJ (gL v) (i/7) else St.nil') (i%7))/\Vh 36 Z (w5.drew.heap.size) 12 12 (dF (if jS (gL v 21) (gL v 22) (gL v 23) then jY (gL v 21) (gL v 22) (gL v 23) else dP))) w10:=⟨mx10,mp10⟩;refine hK _ (λ_ _=>hS10) ?_;clear hK K;refine Yj ?_;refine fI<|aN<|aK YB (yT rfl Yf Yf Yf fE dM ma10 (Xr _) mb10 (Xr _)) ⟨(λi=>dK (if kQ (gL v) then nJ (gL v) (i/7) else St.nil') (i%7)),dF (if jS (gL v 21) (gL v 22) (gL v 23) then jY (gL v 21) (gL v 22) (gL v 23) else dP),?_,(λj _=>dU _ _ Yo),fJ _,?_,aF (aF kB k9 Yo Yo) k10 Yo Yo⟩
    .rw[xR hl,hoa];rfl
    .intro h;rw[xR hl,hoa] at h
     cases h
   .refine eU (S:=λZ=>Vh 32 Z w3.heap.size 21 21 (λi=>dK (if kQ (gL v) then nJ (gL v) (i/7) else St.nil') (i%7))/\Vh 36 Z (w5.drew.heap.size) 12 12 (dF (if jS (gL v 21) (gL v 22) (gL v 23) then jY (gL v 21) (gL v 22) (gL v 23) else dP))) (.rd 0 (.rd 1 (.mv 2 (.mv 3 (.mv 4 (.mv 5 (.go 6 (.go 7 (.mv 8 .fin))))))))) [] Yl Yl ?_;refine Yr rfl hS0 (λ_ hS=>aV _ _ rfl fE Yf hS.1 Yc) ?_;refine Yr rfl hS0 (λ_ hS=>aV _ _ rfl dM Yf hS.2 Yc) ?_;iterate 3 refine Yj ?_
    refine Yk rfl (λ_=>aO _ _ _ rfl Yf Yf _) ?_;refine dS rfl Yw (λK hK=>?_);refine aW _ _ _ _ rfl fE Yf Yf ma0 Yc (λj _=>dU _ _ Yo) rfl ?_;intro w9 mm9 k9 z9;have ma9:=Vh.congr mm9 (kI _ _);have mb9:=mb0.kept k9 Yo;have mx9:=mx0.kept k9 Yo;have mp9:=mp0.kept k9 Yo;have hS9:(λZ=>Vh 32 Z w3.heap.size 21 21 (λi=>dK (if kQ (gL v) then nJ (gL v) (i/7) else St.nil') (i%7))/\Vh 36 Z (w5.drew.heap.size) 12 12 (dF (if jS (gL v 21) (gL v 22) (gL v 23) then jY (gL v 21) (gL v 22) (gL v 23) else dP))) w9:=⟨mx9,mp9⟩;refine hK _ (λ_ _=>hS9) ?_;clear hK K;refine dS rfl Yw (λK hK=>?_);refine aW _ _ _ _ rfl dM Yf Yf mb9 Yc (fJ _) rfl ?_;intro w10 mm10 k10 z10;have mb10:=Vh.congr mm10 (fH _ _);have ma10:=ma9.kept k10 Yo;have mx10:=mx9.kept k10 Yo;have mp10:=mp9.kept k10 Yo;have hS10:(λZ=>Vh 32 Z w3.heap.size 21 21 (λi=>dK (if kQ (gL v) then nJ (gL v) (i/7) else St.nil') (i%7))/\Vh 36 Z (w5.drew.heap.size) 12 12 (dF (if jS (gL v 21) (gL v 22) (gL v 23) then jY (gL v 21) (gL v 22) (gL v 23) else dP))) w10:=⟨mx10,mp10⟩;refine hK _ (λ_ _=>hS10) ?_;clear hK K;refine Yj ?_;refine fI<|aN<|aK YB (yT rfl Yf Yf Yf fE dM ma10 (Xr _) mb10 (Xr _)) ⟨(λi=>dK (if kQ (gL v) then nJ (gL v) (i/7) else St.nil') (i%7)),dF (if jS (gL v 21) (gL v 22) (gL v 23) then jY (gL v 21) (gL v 22) (gL v 23) else dP),?_,(λj _=>dU _ _ Yo),fJ _,?_,aF (aF kB k9 Yo Yo) k10 Yo Yo⟩
    .rw[xR hl,hoa];rfl
    .intro h;rw[xR hl,hoa,Bool.true_and,Bool.and_eq_true] at h;refine⟨λi _=>?_,?_⟩
     .dsimp only;rw[if_pos hoa,aLU hoa Yo]
     .intro i _;rw[if_pos h.1];rfl
theorem fO(x:Value)(w:World):(callFunc 65 #[x]).run Tryz.prog w=.ok (.enter 65 #[x]) w:=Yh
theorem nY(x:Value)(w:World):(callFunc 119 #[x]).run Tryz.prog w=.ok (.enter 119 #[x]) w:=Yh
theorem nG(x y z:Value)(w:World):(callFunc 120 #[x,y,z]).run Tryz.prog w=.ok (.enter 120 #[x,y,z]) w:=Yh
theorem oV(x y z u:Value)(w:World):(callFunc 121 #[x,y,z,u]).run Tryz.prog w=.ok (.enter 121 #[x,y,z,u]) w:=Yh
theorem MZ(x y:Value)(w:World):(callFunc 129 #[x,y]).run Tryz.prog w=.ok (.enter 129 #[x,y]) w:=Yh
theorem RP(x:Value)(w:World):(callFunc 122 #[x]).run Tryz.prog w=.ok (.enter 122 #[x]) w:=Yh
theorem rE(x y:Value)(w:World):(callFunc 127 #[x,y]).run Tryz.prog w=.ok (.enter 127 #[x,y]) w:=Yh
theorem CV(x:Value)(w:World):(callFunc 184 #[x]).run Tryz.prog w=.ok (.enter 184 #[x]) w:=Yh
theorem AQ(x:Value)(w:World):(callFunc 185 #[x]).run Tryz.prog w=.ok (.enter 185 #[x]) w:=Yh
theorem sS(x:Value)(w:World):(callFunc 186 #[x]).run Tryz.prog w=.ok (.enter 186 #[x]) w:=Yh
theorem iL(id:Int)(w:World):Calls Tryz.prog 65 #[.int .i64 id] w λe w'=>e=.returned (.bool (!jV id))/\Below w.heap.size w w':=by
 unfold jV;by_cases h1:id<0
 .rw[Xt h1,Bool.true_or];refine bB Tryz.func65 rfl 9 rfl Yd (λA hs hd hb=>?_);have b0:=hb 0 _ rfl;clear hb;refine aD (aG ?_);refine Yx ?_;refine aC<|aD<|Yx ?_;refine Yq (fU (b:=false) _ _ rfl Yf (aI _ _) (Xf Yo) _) ?_;refine Yx ?_;iterate 2 refine Yu ?_
  refine Yq (aZ _ _ _ rfl Yf (aI _ _) _) ?_;refine Yx ?_;refine aC ?_;exact aN (aK YB (bL rfl Yf) ⟨rfl,Below.refl _ _⟩)
 .by_cases h2:3<id
  .rw[Xf h1,Xt h2,Bool.or_true];refine bB Tryz.func65 rfl 9 rfl Yd (λA hs hd hb=>?_);have b0:=hb 0 _ rfl;clear hb;refine aD (aG ?_);refine Yx ?_;refine aC<|aD<|Yx ?_;refine Yq (fU (b:=true) _ _ rfl Yf (aI _ _) (Xt Yo) _) ?_;iterate 3 refine Yx ?_
   refine Yq (aO _ _ _ rfl Yf Yf _) ?_;refine Yx ?_;refine aC ?_;exact aN (aK YB (bL rfl Yf) ⟨rfl,Below.refl _ _⟩)
  .rw[Xf h1,Xf h2,Bool.or_false];refine bB Tryz.func65 rfl 9 rfl Yd (λA hs hd hb=>?_);have b0:=hb 0 _ rfl;clear hb;refine aD (aG ?_);refine Yx ?_;refine aC<|aD<|Yx ?_;refine Yq (fU (b:=true) _ _ rfl Yf (aI _ _) (Xt Yo) _) ?_;iterate 3 refine Yx ?_
   refine Yq (aO _ _ _ rfl Yf Yf _) ?_;refine Yx ?_;refine aC ?_;exact aN (aK YB (bL rfl Yf) ⟨rfl,Below.refl _ _⟩)
theorem uQ(n:Nd)(ao:Option Addr)(c:Nat)(w:World)(hs0:Sr w ao n.vA.length c (tF (bA n)))(hl:n.vA.length<=140737488351232):Calls Tryz.prog 119 #[lS n (.slice ao n.vA.length c)] w λe w'=>∃a' c',e=.returned (lS n (.slice a' n.vA.length c'))/\w'.ownsRow w.heap.size 4 1 (.slice a' n.vA.length c') n.vA.length (rowV (tF (bA n)) n.vA.length)/\Below w.heap.size w w':=by
 refine bB Tryz.func119 rfl 10 rfl Yd (λA hs hd hb=>?_);have b0:=hb 0 _ rfl;clear hb;refine aD (aG ?_);refine Zb (λw1 m1 k1 z1=>?_);have sr1:=hs0.below k1;refine Za nT (λw2 m2 k2 z2=>?_);have mn2:=m1.below k2;have sr2:=sr1.below k2;refine aC<|aD ?_;iterate 3 refine Yx ?_
 refine bJ rfl Yw (λK hK=>?_);refine⟨aFX _ _ _ rfl w2.heap.size (Xr _) (.slice none 0 0) 0 [] rfl (World.ownsRow_nil _ _ _ _) ao n.vA.length c (tF (bA n)) Yf sr2 (λi _=>rfl) Yo ?_⟩;intro v3 w3 o3 k3;rw[Nat.zero_add,List.nil_append] at o3;obtain⟨a3,c3,rfl,hc3⟩:=dY o3;have mn3:=mn2.below k3;have mr3:=m2.below k3;refine hK _ _ ?_;clear hK K;iterate 2 refine Yx ?_
 refine kV Yw (λK hK=>kL _ _ _ _ rfl aGq Yf Yf mn3 Yc rfl rfl rfl (λw4 mm4 k4 z4=>hK _ ?_));have mn4:=Vh.congr mm4 (OG _ _ _);have mr4:=mr3.kept k4 Yo;have ow4:=jC o3 k4 Yo;refine aC<|aD<|Yx ?_;refine Zs bG mr4 (dA _ _ _ _) (λw5 mm5 k5 z5=>?_);have mr5:=Vh.congr mm5 (dX _ _);have mn5:=mn4.kept k5 Yo;have ow5:=jC ow4 k5 Yo;refine aC<|aN (aK YB (qV rfl Yf bG mr5 (Xr _)) ⟨a3,c3,rfl,dJ ow5 Yo,?_⟩);exact aF (aF ((k1.trans (k2.mono Yo)).trans (k3.mono Yo)) k4 Yo (by have:=k3.size;omega)) k5 Yo (by have:=k3.size;omega)
theorem sD(n:Nd)(nv:Value)(kind:Int)(vo:Option Addr)(vn vc:Nat)(g:Nat->Int)(w:World)(hsr:Sr w vo vn vc (iF g))(hl:vn<=17592186044404):Calls Tryz.prog 120 #[lS n nv,.int .i64 kind,.slice vo vn vc] w λe w'=>∃a2 c2,e=.returned (aP (qN kind n.id n.fr (.slice a2 vn c2)) 0 4)/\w'.ownsRow w.heap.size 3 1 (.slice a2 vn c2) vn (rowV (iF g) vn)/\Below w.heap.size w w':=by
 refine bB Tryz.func120 rfl 15 rfl Yd (λA hs hd hb=>?_);have b0:=hb 0 _ rfl;have b1:=hb 1 _ rfl;have b2:=hb 2 _ rfl;clear hb;refine aD (aG ?_);refine Zb (λw1 m1 k1 z1=>?_);have sr1:=hsr.below k1;refine Za nE (λw2 m2 k2 z2=>?_);have mn2:=m1.below k2;have sr2:=sr1.below k2;refine aC<|aH ?_;have hS0:(λW=>Vh 43 W w.heap.size 74 74 (ndF n nv)) w2.drew:=mn2;have mq0:Vh _ w2.drew _ _ _ _:=m2;have sr0:Sr w2.drew _ _ _ _:=sr2;have ez:w2.drew.heap.size=w2.heap.size:=rfl;refine eU (S:=λW=>Vh 43 W w.heap.size 74 74 (ndF n nv)) (.mv 0 (.mv 1 (.rd 2 (.mv 3 (.rd 4 (.mv 5 (.go 6 (.mv 7 (.go 8 .fin))))))))) [] Yl Yl ?_;refine Yj ?_;refine Yk rfl (λ_=>NF rfl Yf _) ?_;refine Yr rfl hS0 (λ_ hS=>aR _ _ rfl iZ Yf hS Yc rfl) ?_;refine Yk rfl (λ_=>aAf rfl Yf _) ?_;refine Yr rfl hS0 (λ_ hS=>aR _ _ rfl iZ Yf hS Yc rfl) ?_;refine Yj ?_;refine bR rfl rfl Yw (λK hK=>?_);refine⟨sG _ _ _ rfl w2.drew.heap.size (Xr _) (.slice none 0 0) 0 [] (aI _ _) (World.ownsRow_nil _ _ _ _) vo vn vc (iF g) Yf sr0 (λi _=>rfl) Yo ?_⟩;intro v3 w3 ov3 k3;rw[Nat.zero_add,List.nil_append] at ov3;obtain⟨a2,c2,rfl,hc2⟩:=dY ov3;have n3:=k3.size;have hS3:(λW=>Vh 43 W w.heap.size 74 74 (ndF n nv)) w3:=hS0.below k3;have mq3:=mq0.below k3;refine hK _ _ (λ_ _=>hS3) ?_;clear hK K;refine Yk rfl (λ_=>PR _ _ _ _ rfl Yf Yf Yf Yf _) ?_;refine dS rfl Yw (λK hK=>?_);refine aW _ _ _ _ rfl dZ Yf Yf mq3 Yc (gU _ _ _ _ _ _) rfl ?_;intro w4 mm4 k4 z4;have mq4:=Vh.congr mm4 (fB _ _);have hS4:(λW=>Vh 43 W w.heap.size 74 74 (ndF n nv)) w4:=hS3.kept k4 Yo;have ov4:=jC ov3 k4 Yo;refine hK _ (λ_ _=>hS4) ?_;clear hK K;refine fI<|aN (aK YB (qV rfl Yf dZ mq4 (Xr _)) ⟨a2,c2,rfl,dJ ov4 Yo,?_⟩);exact aF ((aY (k1.trans (k2.mono Yo))).trans (k3.mono Yo)) k4 Yo Yo
theorem tO(x:Value)(w:World):(callFunc 135 #[x]).run Tryz.prog w=.ok (.enter 135 #[x]) w:=Yh
def movN(n:Nd)(v:List Int):Nd:=if (decide (v.length=24)&&unOK v)=true then { n with ax:=unA v,rl:=unR v } else n
theorem OH(n:Nd){nv:Value}(h:nv.oneCell'=true):∀j,j<74->(ndF n nv j).oneCell'=true:=by
 intro j _;unfold ndF kW dK dF iV
 repeat' split
 all_goals first|exact h|rfl
theorem upd_axW(n:Nd)(v:Value){fx:Nat->Value}{ax:Nat->St}(hx:∀i,i<21->fx i=dK (ax (i/7)) (i%7)):∀j,j<74->stP (ndF n v) (0+6) 21 fx j=ndF { n with ax:=ax } v j:=by grind [stP,ndF]
theorem upd_rlW(n:Nd)(v:Value){fr:Nat->Value}(hx:∀i,i<12->fr i=dF r i):∀j,j<74->stP (ndF n v) (0+27) 12 fr j=ndF { n with rl:=r } v j:=by
 intro j hj;refine Eq.trans ?_ (upd_rl n v r j hj);unfold stP;by_cases c:0+27<=j/\j<0+27+12
 .rw[if_pos c,if_pos c,hx _ Yo]
 .rw[if_neg c,if_neg c]
theorem aAM(n:Nd)(nv:Value)(v:List Int)(to:Option Addr)(tc:Nat)(w:World)(hnv:nv.oneCell'=true)(hsr:Sr w to v.length tc (iF (gL v)))(htl:v.length<=tc):Calls Tryz.prog 133 #[lS n nv,.slice to v.length tc] w λe w'=>e=.returned (lS (movN n v) nv)/\Below w.heap.size w w':=by
 refine bB Tryz.func133 rfl 20 rfl Yd (λA hs hd hb=>?_);have b0:A.eval (.tmp 0)=lS n nv:=hb 0 _ rfl;have b1:A.eval (.tmp 1)=.slice to v.length tc:=hb 1 _ rfl;clear hb;rcases hb:(decide (v.length=24)&&unOK v) with _|_
 .refine aD (aG ?_);refine Zb (λw1 m1 k1 z1=>?_);have sr1:=hsr.below k1;refine Za nT (λw2 m2 k2 z2=>?_);have mn2:=m1.below k2;have sr2:=sr1.below k2;refine aC<|aH<|aD<|Yx ?_;refine bJ rfl Yw (λK hK=>?_);have C3:=AA v to tc w2 sr2 htl;rw[hb] at C3;refine aX _ 192 _ _ rfl Yf (yK _ _) C3 ?_;rintro e w3 ⟨fx,fr,rfl,ofx,ofr,hfx,k3⟩;have n3:=k3.size;have mn3:=mn2.below k3;have mr3:=m2.below k3;refine⟨_,rfl,?_⟩;refine hK _ _ ?_;clear hK K;refine Yx ?_;refine Yq (jZ _ rfl Yf _) ?_;refine Yq (kE _ rfl Yf _) ?_;refine Yq (kF _ rfl Yf _) ?_;refine Za wO (λw4 m4 k4 z4=>?_);have mn4:=mn3.below k4;have mr4:=mr3.below k4;refine Za kM (λw5 m5 k5 z5=>?_);have mn5:=mn4.below k5;have mr5:=mr4.below k5;have ma5:=m4.below k5;refine kV Yw (λK hK=>aW _ _ _ _ rfl fE (f:=fx) Yf Yf ma5 Yc ofx rfl (λw6 mm6 k6 z6=>hK _ ?_));have ma6:=Vh.congr mm6 (kI _ _);have mn6:=mn5.kept k6 Yo;have mr6:=mr5.kept k6 Yo;have mb6:=m5.kept k6 Yo;refine kV Yw (λK hK=>aW _ _ _ _ rfl dM (f:=fr) Yf Yf mb6 Yc ofr rfl (λw7 mm7 k7 z7=>hK _ ?_));have mb7:=Vh.congr mm7 (fH _ _);have mn7:=mn6.kept k7 Yo;have mr7:=mr6.kept k7 Yo;have ma7:=ma6.kept k7 Yo;refine Yx ?_;refine aC<|aD<|Yx ?_;refine aC<|aQ Yf (aS ?_);refine aD<|Yx ?_;refine Zs bG mr7 (OH _ hnv) (λw8 mm8 k8 z8=>?_);have mr8:=Vh.congr mm8 (dX _ _);have mn8:=mn7.kept k8 Yo;have ma8:=ma7.kept k8 Yo;have mb8:=mb7.kept k8 Yo;refine aC<|aN (aK YB (qV rfl Yf bG mr8 (Xr _)) ⟨?_,aF (aF (aF ((((k1.trans (k2.mono Yo)).trans (k3.mono Yo)).trans (k4.mono Yo)).trans (k5.mono Yo)) k6 Yo Yo) k7 Yo Yo) k8 Yo Yo⟩);unfold movN;rw[hb];rfl
 .refine aD (aG ?_);refine Zb (λw1 m1 k1 z1=>?_);have sr1:=hsr.below k1;refine Za nT (λw2 m2 k2 z2=>?_);have mn2:=m1.below k2;have sr2:=sr1.below k2;refine aC<|aH<|aD<|Yx ?_;refine bJ rfl Yw (λK hK=>?_);have C3:=AA v to tc w2 sr2 htl;rw[hb] at C3;refine aX _ 192 _ _ rfl Yf (yK _ _) C3 ?_;rintro e w3 ⟨fx,fr,rfl,ofx,ofr,hfx,k3⟩;have n3:=k3.size;have mn3:=mn2.below k3;have mr3:=m2.below k3;refine⟨_,rfl,?_⟩;refine hK _ _ ?_;clear hK K;refine Yx ?_;refine Yq (jZ _ rfl Yf _) ?_;refine Yq (kE _ rfl Yf _) ?_;refine Yq (kF _ rfl Yf _) ?_;refine Za wO (λw4 m4 k4 z4=>?_);have mn4:=mn3.below k4;have mr4:=mr3.below k4;refine Za kM (λw5 m5 k5 z5=>?_);have mn5:=mn4.below k5;have mr5:=mr4.below k5;have ma5:=m4.below k5;refine kV Yw (λK hK=>aW _ _ _ _ rfl fE (f:=fx) Yf Yf ma5 Yc ofx rfl (λw6 mm6 k6 z6=>hK _ ?_));have ma6:=Vh.congr mm6 (kI _ _);have mn6:=mn5.kept k6 Yo;have mr6:=mr5.kept k6 Yo;have mb6:=m5.kept k6 Yo;refine kV Yw (λK hK=>aW _ _ _ _ rfl dM (f:=fr) Yf Yf mb6 Yc ofr rfl (λw7 mm7 k7 z7=>hK _ ?_));have mb7:=Vh.congr mm7 (fH _ _);have mn7:=mn6.kept k7 Yo;have mr7:=mr6.kept k7 Yo;have ma7:=ma6.kept k7 Yo;refine Yx ?_;refine aC<|aD<|Yx ?_;refine aC<|aT Yf ?_;have kA:Below w.heap.size w w7.drew:=aY (aF (aF ((((k1.trans (k2.mono Yo)).trans (k3.mono Yo)).trans (k4.mono Yo)).trans (k5.mono Yo)) k6 Yo Yo) k7 Yo Yo);obtain⟨hx1,hx2⟩:=hfx rfl;have hS0:(λZ=>Vh 32 Z w3.heap.size 21 21 fx/\Vh 36 Z w4.heap.size 12 12 fr) w7.drew:=⟨ma7,mb7⟩;have mn0:Vh _ w7.drew _ _ _ _:=mn7;have mr0:Vh _ w7.drew _ _ _ _:=mr7;have ma0:Vh _ w7.drew _ _ _ _:=ma7;have mb0:Vh _ w7.drew _ _ _ _:=mb7;have ez:w7.drew.heap.size=w7.heap.size:=rfl;refine eU (S:=λZ=>Vh 32 Z w3.heap.size 21 21 fx/\Vh 36 Z w4.heap.size 12 12 fr) (.rd 0 (.rd 1 (.mv 2 (.go 3 (.mv 4 (.go 5 .fin)))))) [] Yl Yl ?_;refine Yr rfl hS0 (λ_ hS=>aV _ _ rfl fE Yf hS.1 Yc) ?_;refine Yr rfl hS0 (λ_ hS=>aV _ _ rfl dM Yf hS.2 Yc) ?_;refine Yk rfl (λ_=>CY rfl Yf _) ?_;refine dS rfl Yw (λK hK=>?_);refine aW _ _ _ _ rfl fE (f:=fx) Yf Yf mn0 Yc ofx rfl ?_;intro w8 mm8 k8 z8;have mn8:Vh 43 w8 w.heap.size 74 74 (ndF { n with ax:=unA v } nv):=Vh.congr mm8 (upd_axW n nv hx1);have mr8:=mr0.kept k8 Yo;have ma8:=ma0.kept k8 Yo;have mb8:=mb0.kept k8 Yo;have hS8:(λZ=>Vh 32 Z w3.heap.size 21 21 fx/\Vh 36 Z w4.heap.size 12 12 fr) w8:=⟨ma8,mb8⟩;refine hK _ (λ_ _=>hS8) ?_;clear hK K;refine Yk rfl (λ_=>N8 rfl Yf _) ?_;refine dS rfl Yw (λK hK=>?_);refine aW _ _ _ _ rfl dM (f:=fr) Yf Yf mn8 Yc ofr rfl ?_;intro w9 mm9 k9 z9;have mn9:Vh 43 w9 w.heap.size 74 74 (ndF { n with ax:=unA v,rl:=unR v } nv):=Vh.congr mm9 (upd_rlW { n with ax:=unA v } nv hx2);have mr9:=mr8.kept k9 Yo;have ma9:=ma8.kept k9 Yo;have mb9:=mb8.kept k9 Yo;have hS9:(λZ=>Vh 32 Z w3.heap.size 21 21 fx/\Vh 36 Z w4.heap.size 12 12 fr) w9:=⟨ma9,mb9⟩;refine hK _ (λ_ _=>hS9) ?_;clear hK K;refine fI<|aD<|Yx ?_;refine Zs bG mr9 (OH _ hnv) (λw10 mm10 k10 z10=>?_);have mr10:=Vh.congr mm10 (dX _ _);have mn10:=mn9.kept k10 Yo;have ma10:=ma9.kept k10 Yo;have mb10:=mb9.kept k10 Yo;refine aC<|aN (aK YB (qV rfl Yf bG mr10 (Xr _)) ⟨?_,aF (aF (aF kA k8 Yo Yo) k9 Yo Yo) k10 Yo Yo⟩);unfold movN;rw[hb];rfl
def I4(n:Nd)(x j:Nat):Value:=if j=0 then iV n.id else if j=1 then iV n.fr else if j<5 then iV (n.us (j-2)) else if j<8 then iV (if j-5<x then (n.ax (j-5)).X else 0) else if j=8 then iV n.dg else if j=9 then .bool n.vS else .bool (n.rl.I (j-10))
def gH(n:Nd):Nat->Value:=I4 n 3
theorem mE(n:Nd)(x:Nat):∀j,j<14->(I4 n x j).oneCell'=true:=by
 intro j _;unfold I4 iV
 repeat' split
 all_goals rfl
theorem aIE(n:Nd)(hx:x<3):∀j,j<14->eQ (I4 n x) (0+5+x*1) (.int .i64 (n.ax x).X) j=I4 n (x+1) j:=by
 intro j _;unfold eQ;rw[show 0+5+x*1=5+x by omega];by_cases e:j=5+x
 .rw[if_pos e];unfold I4;rw[if_neg Yo,if_neg Yo,if_neg Yo,if_pos Yo,if_pos Yo,show j-5=x by omega];rfl
 .rw[if_neg e];unfold I4;by_cases c0:j=0
  .rw[if_pos c0,if_pos c0]
  rw[if_neg c0,if_neg c0];by_cases c1:j=1
  .rw[if_pos c1,if_pos c1]
  rw[if_neg c1,if_neg c1];by_cases c5:j<5
  .rw[if_pos c5,if_pos c5]
  rw[if_neg c5,if_neg c5];by_cases c8:j<8
  .rw[if_pos c8,if_pos c8];by_cases c:j-5<x
   .rw[if_pos c,if_pos Yo]
   .rw[if_neg c,if_neg Yo]
  rw[if_neg c8,if_neg c8]
theorem nA:Many Tryz.prog 57 14:=Many.of _ Tryz.underlying57 rfl Yl
theorem U3(w:World):(zeroValue 57).run Tryz.prog w=.ok (aP (I4 dW 3) 0 14) w:=Yl
theorem qF(g:Nat->Value)(h:Nat->Value):∀j,j<14->stP g 0 14 h j=h j:=λj hj=>by
 have:=mF g (o:=0) (n:=14) h hj
 rwa [Nat.zero_add] at this
theorem aMM(n:Nd)(v:Value):∀j,j<3->ndF n v (0+67+j)=iV (n.us j):=by grind [ndF]
theorem aLm(n:Nd)(v:Value):∀j,j<21->ndF n v (0+6+j)=dK (n.ax (j/7)) (j%7):=by grind [ndF]
theorem aGP(ax:Nat->St):aP (λj=>dK (ax (j/7)) (j%7)) (x*7) 7=aP (dK (ax x)) 0 7:=by
 unfold aP
 congr 2
 refine List.map_congr_left (λj hj=>?_);have:=List.mem_range.1 hj;show dK (ax ((x*7+j)/7)) ((x*7+j)%7)=dK (ax x) (0+j)
 rw[show (x*7+j)/7=x by omega,show (x*7+j)%7=j by omega,Nat.zero_add]
section
variable {f:Operand->Value} {o:Oper} {x:Operand} {b off:Nat}
theorem aKD(ho:o.op=.fieldAddr 57 x 0)(hx:f x=.pointer (some ⟨b,off,none⟩))(w:World):(execOp f o).run Tryz.prog w=.ok (.value (.pointer (some ⟨b,off+0,none⟩))) w:=Yg
theorem aKE(ho:o.op=.fieldAddr 57 x 3)(hx:f x=.pointer (some ⟨b,off,none⟩))(w:World):(execOp f o).run Tryz.prog w=.ok (.value (.pointer (some ⟨b,off+5,none⟩))) w:=Yg
theorem XI(ho:o.op=.build 57 #[])(w:World):(execOp f o).run Tryz.prog w=.ok (.value (aP (I4 dW 3) 0 14)) w:=by
 unfold execOp;rw[ho];dsimp only;change _=_
 kernel_rfl
theorem aBx(a b c d e g:Operand)(ho:o.op=.build 57 #[(0,a),(1,b),(2,c),(4,d),(5,e),(6,g)]){n:Nd}(h0:f a=.int .i64 n.id)(h1:f b=.int .i64 n.fr)(h2:f c=aP (λi=>iV (n.us i)) 0 3)(h3:f d=.int .i64 n.dg)(h4:f e=.bool n.vS)(h5:f g=aP (tF n.rl.I) 0 4)(w:World):(execOp f o).run Tryz.prog w=.ok (.value (aP (I4 n 0) 0 14)) w:=by
 have h2':f c=.agg #[.int .i64 (n.us 0),.int .i64 (n.us 1),.int .i64 (n.us 2)]:=h2;have h5':f g=.agg #[.bool (n.rl.I 0),.bool (n.rl.I 1),.bool (n.rl.I 2),.bool (n.rl.I 3)]:=h5;unfold execOp;rw[ho];simp only[List.map_toArray,List.map_cons,List.map_nil];rw[h0,h1,h2',h3,h4,h5'];clear h0 h1 h2 h3 h4 h5 h2' h5' ho;change _=_
 kernel_rfl
end
theorem zW(n:Nd)(nv:Value)(w:World):Calls Tryz.prog 135 #[lS n nv] w λe w'=>e=.returned (aP (gH n) 0 14)/\Below w.heap.size w w':=by
 refine bB Tryz.func135 rfl 34 rfl Yd (λA hs hd hb=>?_);have b0:A.eval (.tmp 0)=lS n nv:=hb 0 _ rfl;clear hb;refine aD (aG ?_);refine Zb (λw1 m1 k1 z1=>?_);refine Za U3 (λw2 m2 k2 z2=>?_);have mn2:=m1.below k2;refine aC<|aD ?_;iterate 5 refine Yx ?_
 refine Yq (cZ (h:=λi=>iV (n.us i)) _ _ rfl lV Yf mn2 Yo (aMM n nv)) ?_;iterate 7 refine Yx ?_
 refine Yq (cZ _ _ rfl OB Yf mn2 Yo (GN _ _)) ?_;refine Yq (aBx (n:=n) _ _ _ _ _ _ rfl Yf Yf Yf Yf Yf Yf _) ?_;refine Za U3 (λw3 m3 k3 z3=>?_);have mn3:=mn2.below k3;have mr3:=m2.below k3;refine Zs nA m3 (mE _ _) (λw4 mm4 k4 z4=>?_);have mp4:=Vh.congr mm4 (qF _ _);have mn4:=mn3.kept k4 Yo;have mr4:=mr3.kept k4 Yo;refine aC<|aH<|aD<|Yx ?_;refine Yq (cZ (h:=λj=>dK (n.ax (j/7)) (j%7)) _ _ rfl fE Yf mn4 Yo (aLm n nv)) ?_;refine Yx ?_;refine aC<|aM<|cO (λq A W=>∃x:Nat,x<=3/\3-x<=q/\A.tmps.size=34/\A.defers=[]/\A.eval (.tmp 2)=.pointer (some ⟨w1.heap.size,0,none⟩)/\A.eval (.tmp 3)=.pointer (some ⟨w2.heap.size,0,none⟩)/\A.eval (.tmp 22)=aP (λj=>dK (n.ax (j/7)) (j%7)) 0 21/\A.eval (.tmp 23)=.int .i64 (x:Int)/\Vh 57 W w1.heap.size 14 14 (I4 dW 3)/\Vh 57 W w2.heap.size 14 14 (I4 n x)/\Below w.heap.size w W/\w4.heap.size<=W.heap.size) 3 ⟨0,Yo,Yo,YA,YB,Yf,Yf,Yf,Yf,mr4,mp4,aF (((k1).trans (k2.mono Yo)).trans (k3.mono Yo)) k4 Yo Yo,Yo⟩ (λq B W hI2=>?_);clear b0 hs hd;obtain⟨x,hx,hr2,hs,hd,b2,b3,b22,b23,mr,mp,kB,hW⟩:=hI2;by_cases hin:x<3
 .refine aD (aG ?_);refine Yx ?_;refine aC<|aH (aT Yf (aS ?_));refine aH (aM ?_);refine aD<|Yx ?_;refine Yq ((jQ _ _ _ _ rfl Tryz.underlying32 jJ Yb rfl Yb rfl hin _).trans (by rw[aGP n.ax])) ?_;refine Za wP (λw11 m11 k11 z11=>?_);have mr11:=mr.below k11;have mp11:=mp.below k11;refine Yx ?_;refine Zs jJ m11 (dU _) (λw12 mm12 k12 z12=>?_);have ms12:=Vh.congr mm12 (rZ _ _);have mr12:=mr11.kept k12 Yo;have mp12:=mp11.kept k12 Yo;refine aC<|aJ ?_;iterate 4 refine Yx ?_
  refine Yq (bQ _ _ _ _ rfl Tryz.underlying37 iZ.size Yf Yf rfl hin _) ?_;refine kV Yw (λK hK=>kL _ _ _ _ rfl iZ Yf Yf mp12 Yo rfl rfl rfl (λw13 mm13 k13 z13=>hK _ ?_));have mp13:=Vh.congr mm13 (aIE n hin);have mr13:=mr12.kept k13 Yo;have ms13:=ms12.kept k13 Yo;refine fG<|aJ ?_;iterate 2 refine Yx ?_
  exact bD ⟨3-(x+1),Yo,x+1,Yo,Yo,YA,YB,Yb,Yb,Yb,(Ye rfl).trans YC,mr13,mp13,aF (aF (kB.trans (k11.mono Yo)) k12 Yo Yo) k13 Yo Yo,Yo⟩
 .refine aD (aG ?_);refine Yx ?_;obtain rfl:x=3:=Yo;refine aC<|aH (aQ Yf (bY (eY ?_)));refine aD<|Yx ?_;refine Zs nA mr (mE _ _) (λw11 mm11 k11 z11=>?_);have mr11:=Vh.congr mm11 (qF _ _);have mp11:=mp.kept k11 Yo;refine aC<|aN (aK YB (qV rfl Yb nA mr11 (Xr _)) ⟨rfl,aF kB k11 Yo Yo⟩)
end Go.Proofs.YthimcecbgpamdaaGreatDoor
