import Derived.Test.YthimcecbgpamdaaGreatNear145
import Derived.Deep.Grids
namespace Go.Proofs.YthimcecbgpamdaaGreat
open Go.ChangeShapes Go.WideShapes Go.ChangeAt Go.RowKit Go.Joins
set_option maxRecDepth 100000
instance:Inhabited Lm:=⟨⟨⟨0,0,0,[]⟩,none,0⟩⟩
def CellK(b:Bool)(v:Value):Prop:=(b=true/\∃x,v=.bool x)\/(b=false/\∃x,v=.int .i64 x/\R64 x)
theorem AA:Tryz.prog.cellsOf 3=1:=Yl
theorem P6:Tryz.prog.cellsOf 4=1:=Yl
section
variable {H:Type} {enc:TypeId×Value->H} {w:World} {base:Nat} {held:Bool}
def Flat(enc:TypeId×Value->H)(w:World)(base:Nat)(held:Bool)(t:TypeId)(n:Nat)(K:Nat->Bool):Prop:=
 Tryz.prog.cellsOf t=n/\∀fuel cs x,DataW.trod enc Tryz.prog w base (λ_=>true) held fuel t cs=some x->∀j v,cs[j]?=some v->CellK (K j) v
theorem flat_int:Flat enc w base held 3 1 (λ_=>false):=⟨AA,λfuel cs x h j v hv=>by
 obtain⟨z,rfl,_,hw⟩:=DataW.trod_int Tryz.underlying3 h
 match j,hv with
 |0,hv=>exact Or.inr ⟨rfl,z,(Option.some.inj hv).symm,R64.of_wf hw⟩⟩
theorem BI:Flat enc w base held 4 1 (λ_=>true):=⟨P6,λfuel cs x h j v hv=>by
 obtain⟨z,rfl,_⟩:=DataW.trod_bool Tryz.underlying4 h
 match j,hv with
 |0,hv=>exact Or.inl ⟨rfl,z,(Option.some.inj hv).symm⟩⟩
variable{cs:List Value}{fuel n:Nat}{x:DataW H×List MemPlace}{t e:TypeId}
theorem UZ(ht:Tryz.prog.underlying t=some (.array n e))(h:DataW.trod enc Tryz.prog w base (λ_=>true) held fuel t cs=some x):cs.length=Tryz.prog.cellsOf t/\∃m,∀i,i<n->∃y,DataW.trod enc Tryz.prog w base (λ_=>true) held m e ((cs.drop (i*Tryz.prog.cellsOf e)).take (Tryz.prog.cellsOf e))=some y:=by
 cases fuel with
 |zero=>simp[DataW.trod] at h
 |succ m=>
  unfold DataW.trod at h;rw[ht] at h;simp only[Option.ite_none_right_eq_some,Option.map_eq_some_iff] at h;obtain⟨hl,xs,hp,_⟩:=h;refine⟨hl,m,λi hi=>?_⟩;have hg:=mapM_some_get hp i i (by simp[hi]);have hlen:=mapM_some_length hp;rw[List.length_range] at hlen;exact⟨xs[i]'Yo,by rw[hg,List.getElem?_eq_getElem]⟩
theorem mV{o j:Nat}(hj:j<n):((cs.drop o).take n)[j]?=cs[o+j]?:=by
 rw[List.getElem?_take,if_pos hj,List.getElem?_drop]
variable{N:Nat}{K:Nat->Bool}
theorem xI{m:Nat}(ht:Tryz.prog.underlying t=some (.array n e))(he:Flat enc w base held e m K)(hm:0<m)(hc:Tryz.prog.cellsOf t=N)(hN:N=n*m):Flat enc w base held t N (λj=>K (j%m)):=⟨hc,λfuel cs x h j v hv=>by
 obtain⟨hl,q,hx⟩:=UZ ht h;have hj:j<N:=by have:=(List.getElem?_eq_some_iff.1 hv).1;omega
 have hd:j/m<n:=by
  rw[Nat.div_lt_iff_lt_mul hm, <-hN];exact hj
 obtain⟨y,hy⟩:=hx (j/m) hd;rw[he.1] at hy;refine he.2 _ _ _ hy (j%m) v ?_;rw[mV (Nat.mod_lt _ hm), <-hv]
 congr 1
 rw[Nat.mul_comm];exact Nat.div_add_mod j m⟩
variable{fs:Array Field}
theorem iX{i:Nat}{f:Field}(ht:Tryz.prog.underlying t=some (.struct fs))(hf:fs[i]?=some f)(he:Flat enc w base held f.type n K)(h:DataW.trod enc Tryz.prog w base (λ_=>true) held fuel t cs=some x):∀j v,j<n->cs[f.offset+j]?=some v->CellK (K j) v:=by
 obtain⟨xs,m,_,_,_,hlen,hx⟩:=DataW.trod_struct ht h;intro j v hj hv;have hg:=hx i f hf;have hi:i<fs.size:=(Array.getElem?_eq_some_iff.1 hf).1;rw[List.getElem?_eq_getElem Yo,he.1] at hg;exact he.2 _ _ _ hg j v (by rw[mV hj];exact hv)
theorem zB(ht:Tryz.prog.underlying t=some (.struct fs))(hc:Tryz.prog.cellsOf t=N)(ix:Nat->Nat)(hcov:∀j,j<N->∃f n,fs[ix j]?=some f/\f.offset<=j/\j<f.offset+n/\Flat enc w base held f.type n (λi=>K (f.offset+i))):Flat enc w base held t N K:=⟨hc,λfuel cs x h j v hv=>by
 have hj:j<N:=by
  obtain⟨xs,m,_,_,hl,_⟩:=DataW.trod_struct ht h;have:=(List.getElem?_eq_some_iff.1 hv).1;omega
 obtain⟨f,n,hf,h1,h2,hfl⟩:=hcov j hj;have:=iX ht hf hfl h (j-f.offset) v Yo (by rw[Nat.add_sub_cancel' h1];exact hv);rw[Nat.add_sub_cancel' h1] at this;exact this⟩
set_option maxRecDepth 100000 in
theorem aJz:Flat enc w base held 23 4 (λ_=>false):=zB Tryz.underlying23 Yl id (λj hj=>by
 match j,hj with
 |0,_=>exact⟨_,1,rfl,Xr _,by decide,flat_int⟩
 |1,_=>exact⟨_,1,rfl,Xr _,by decide,flat_int⟩
 |2,_=>exact⟨_,1,rfl,Xr _,by decide,flat_int⟩
 |3,_=>exact⟨_,1,rfl,Xr _,by decide,flat_int⟩)
theorem Flat.as{K':Nat->Bool}(h:Flat enc w base held t n K)(e:∀j,j<n->K j=K' j)(hl:∀fuel cs x,DataW.trod enc Tryz.prog w base (λ_=>true) held fuel t cs=some x->cs.length<=n):Flat enc w base held t n K':=⟨h.1,λfuel cs x hx j v hv=>by
 have:=h.2 fuel cs x hx j v hv;rw[e j (by have:=(List.getElem?_eq_some_iff.1 hv).1;have:=hl fuel cs x hx;omega)] at this;exact this⟩
theorem aKh:∀fuel cs x,DataW.trod enc Tryz.prog w base (λ_=>true) held fuel 3 cs=some x->cs.length<=1:=λfuel cs x h=>by
 obtain⟨z,rfl,_,hw⟩:=DataW.trod_int Tryz.underlying3 h;exact Xr _
theorem aIb:∀fuel cs x,DataW.trod enc Tryz.prog w base (λ_=>true) held fuel 4 cs=some x->cs.length<=1:=λfuel cs x h=>by
 obtain⟨z,rfl,_⟩:=DataW.trod_bool Tryz.underlying4 h;exact Xr _
theorem aKW(ht:Tryz.prog.underlying t=some (.array n e))(hc:Tryz.prog.cellsOf t=N):∀fuel cs x,DataW.trod enc Tryz.prog w base (λ_=>true) held fuel t cs=some x->cs.length<=N:=λfuel cs x h=>by
 have:=(UZ ht h).1;omega
theorem flat_intK(h:K 0=false):Flat enc w base held 3 1 K:=flat_int.as (λj hj=>by
 obtain rfl:j=0:=Yo;exact h.symm) aKh
theorem aCl(h:K 0=true):Flat enc w base held 4 1 K:=BI.as (λj hj=>by
 obtain rfl:j=0:=Yo;exact h.symm) aIb
theorem X7{m:Nat}{K':Nat->Bool}(ht:Tryz.prog.underlying t=some (.array n e))(he:Flat enc w base held e m K)(hm:0<m)(hc:Tryz.prog.cellsOf t=N)(hN:N=n*m)(e2:∀j,j<N->K (j%m)=K' j):Flat enc w base held t N K':=(xI ht he hm hc hN).as e2 (aKW ht hc)
set_option maxRecDepth 100000 in
theorem aLn:Flat enc w base held 25 7 (λj=>decide (j=5)):=zB Tryz.underlying25 Yl id (λj hj=>by
 match j,hj with
 |0,_=>exact⟨_,1,rfl,Xr _,by decide,flat_intK rfl⟩
 |1,_=>exact⟨_,1,rfl,Xr _,by decide,flat_intK rfl⟩
 |2,_=>exact⟨_,1,rfl,Xr _,by decide,flat_intK rfl⟩
 |3,_=>exact⟨_,1,rfl,Xr _,by decide,flat_intK rfl⟩
 |4,_=>exact⟨_,1,rfl,Xr _,by decide,flat_intK rfl⟩
 |5,_=>exact⟨_,1,rfl,Xr _,by decide,aCl rfl⟩
 |6,_=>exact⟨_,1,rfl,Xr _,by decide,flat_intK rfl⟩)
set_option maxRecDepth 100000 in
theorem aJX:Flat enc w base held 30 12 (λj=>decide (j<4)):=zB Tryz.underlying30 Yl (λj=>j/4) (λj hj=>by
 by_cases h1:j<4
 .refine⟨_,4,by rw[show j/4=0 by omega];rfl,Xz _,by show j<0+4;omega,X7 Tryz.underlying27 BI Yc Yl rfl (λi hi=>?_)⟩;exact (Xt (show 0+i<4 by omega)).symm
 .by_cases h2:j<8
  .refine⟨_,4,by rw[show j/4=1 by omega];rfl,by show 4<=j;omega,by show j<4+4;omega,X7 Tryz.underlying28 flat_int Yc Yl rfl (λi hi=>?_)⟩;exact (Xf (show ¬4+i<4 by omega)).symm
  .refine⟨_,4,by rw[show j/4=2 by omega];rfl,by show 8<=j;omega,by show j<8+4;omega,X7 Tryz.underlying28 flat_int Yc Yl rfl (λi hi=>?_)⟩;exact (Xf (show ¬8+i<4 by omega)).symm)
theorem aKA:Flat enc w base held 26 21 (λj=>decide (j%7=5)):=xI Tryz.underlying26 aLn Yc Yl rfl
theorem aAP:Flat enc w base held 31 3 (λ_=>false):=xI Tryz.underlying31 flat_int Yc Yl rfl
theorem aLy:Flat enc w base held 28 4 (λ_=>false):=xI Tryz.underlying28 flat_int Yc Yl rfl
theorem GK:Flat enc w base held 32 12 (λ_=>false):=xI Tryz.underlying32 aAP Yc Yl rfl
set_option maxRecDepth 100000 in
theorem aBN{v:Value}(h:DataW.trod enc Tryz.prog w base (λ_=>true) held fuel 33 [v]=some x)(hsz:∀n∈x.1.weights Tryz.prog 33,n<=reachBytes):∃(ao:Option Addr) (cap:Nat) (l:List Bool),v=.slice ao l.length cap/\Sr w ao l.length cap (tF (λi=>l.getD i false))/\l.length<=140737488351232/\l.length<=cap:=by
 rcases Go.Deep.open_bools Tryz.underlying33 Tryz.underlying4 P6 h with ⟨hcs,_⟩|⟨a,len,cap,B,hcs,_,hl,_,hx,hcell⟩
 .simp at hcs;exact⟨none,0,[],hcs,Or.inl ⟨rfl,rfl,rfl⟩,by decide,Xr _⟩
 .simp at hcs;have hb:cap*1<=reachBytes:=by
   refine hsz _ ?_;rw[hx];simp[Go.Deep.boolRow,DataW.weights,Tryz.underlying33,show Tryz.prog.bytesOf 4=1 by kernel_rfl];left;omega
  have el:((List.range len).map B).length=len:=by simp
  refine⟨some a,cap,(List.range len).map B,by rw[el];exact hcs,Or.inr ⟨a,rfl,λi hi=>?_⟩,by rw[el];unfold reachBytes at hb;omega,by rw[el];exact hl⟩;rw[el] at hi;rw[hcell i Yo];show _=some (Value.bool (((List.range len).map B).getD i false))
  rw[List.getD_eq_getElem?_getD,List.getElem?_map,List.getElem?_range hi];rfl
end
def vI:Value->Int
 |.int _ x=>x
 |_=>0
def vB:Value->Bool
 |.bool b=>b
 |_=>false
def ofC(f:Nat->Value)(l:List Bool):Nd:=⟨vI (f 0),vI (f 1),⟨vI (f 2),vI (f 3),vI (f 4),vI (f 5)⟩,
 λa=>⟨vI (f (6+7*a)),vI (f (6+7*a+1)),vI (f (6+7*a+2)),vI (f (6+7*a+3)),vI (f (6+7*a+4)),vB (f (6+7*a+5)),vI (f (6+7*a+6))⟩,
 ⟨λi=>vB (f (27+i)),λi=>vI (f (31+i)),λi=>vI (f (35+i))⟩,λs a=>vI (f (39+3*s+a)),λs=>vI (f (51+s)),λs a=>vI (f (55+3*s+a)),λa=>vI (f (67+a)),vI (f 70),vI (f 71),vB (f 72),l⟩
def KN(j:Nat):Bool:=decide (27<=j/\j<31)||decide (6<=j/\j<27/\(j-6)%7=5)||decide (j=72)
variable{v:Value}
theorem CellK.i(h:CellK false v):iV (vI v)=v:=by
 rcases h with ⟨h,_⟩|⟨_,x,rfl,_⟩
 .cases h
 .rfl
theorem CellK.b(h:CellK true v):.bool (vB v)=v:=by
 rcases h with ⟨_,x,rfl⟩|⟨h,_⟩
 .rfl
 .cases h
theorem CellK.R{b:Bool}(h:CellK b v):R64 (vI v):=by
 rcases h with ⟨_,x,rfl⟩|⟨_,x,rfl,hx⟩
 .exact gU
 .exact hx
variable{l:List Bool}{f:Nat->Value}
theorem aKr(h:∀j,j<73->CellK (KN j) (f j)):∀j,j<74->ndF (ofC f l) (f 73) j=f j:=by
 intro j hj;have hi:∀j,j<73->KN j=false->iV (vI (f j))=f j:=λj hj e=>by have:=h j hj;rw[e] at this;exact this.i
 have hb:∀j,j<73->KN j=true->.bool (vB (f j))=f j:=λj hj e=>by have:=h j hj;rw[e] at this;exact this.b
 have kf:∀j,¬(27<=j/\j<31)->¬(6<=j/\j<27/\(j-6)%7=5)->j≠72->KN j=false:=λj a b c=>by
  unfold KN;rw[Xf a,Xf b,Xf c];rfl
 unfold ndF;by_cases c2:j<2
 .rw[if_pos c2];have:j=0\/j=1:=Yo;rcases this with rfl|rfl
  .exact hi 0 Yo rfl
  .exact hi 1 Yo rfl
 rw[if_neg c2];by_cases c6:j<6
 .rw[if_pos c6];have:j=2\/j=3\/j=4\/j=5:=Yo;rcases this with rfl|rfl|rfl|rfl
  .exact hi 2 Yo rfl
  .exact hi 3 Yo rfl
  .exact hi 4 Yo rfl
  .exact hi 5 Yo rfl
 rw[if_neg c6];by_cases c27:j<27
 .rw[if_pos c27];obtain⟨a,k,ea,ek,hk,ej⟩:∃a k,(j-6)/7=a/\(j-6)%7=k/\k<7/\j=6+7*a+k:=⟨_,_,rfl,rfl,Yo,Yo⟩;rw[ea,ek]
  match k,hk with
  |0,_=>refine (hi (6+7*a) Yo (kf _ Yo Yo Yo)).trans ?_;rw[ej];rfl
  |1,_=>refine (hi (6+7*a+1) Yo (kf _ Yo Yo Yo)).trans ?_;rw[ej]
  |2,_=>refine (hi (6+7*a+2) Yo (kf _ Yo Yo Yo)).trans ?_;rw[ej]
  |3,_=>refine (hi (6+7*a+3) Yo (kf _ Yo Yo Yo)).trans ?_;rw[ej]
  |4,_=>refine (hi (6+7*a+4) Yo (kf _ Yo Yo Yo)).trans ?_;rw[ej]
  |5,_=>
   refine (hb (6+7*a+5) Yo ?_).trans ?_
   .unfold KN;rw[Xf (show ¬(27<=6+7*a+5/\6+7*a+5<31) by omega),Xt (show 6<=6+7*a+5/\6+7*a+5<27/\(6+7*a+5-6)%7=5 by omega)];rfl
   .rw[ej]
  |6,_=>refine (hi (6+7*a+6) Yo (kf _ Yo Yo Yo)).trans ?_;rw[ej]
 rw[if_neg c27];by_cases c39:j<39
 .rw[if_pos c39];unfold dA;by_cases d1:j-27<4
  .rw[if_pos d1];refine (hb (27+(j-27)) Yo ?_).trans ?_
   .unfold KN;rw[Xt (show 27<=27+(j-27)/\27+(j-27)<31 by omega)];rfl
   .congr 1;omega
  .rw[if_neg d1];by_cases d2:j-27<8
   .rw[if_pos d2];refine (hi (31+(j-27-4)) Yo (kf _ Yo Yo Yo)).trans ?_
    congr 1;omega
   .rw[if_neg d2];refine (hi (35+(j-27-8)) Yo (kf _ Yo Yo Yo)).trans ?_
    congr 1;omega
 rw[if_neg c39];by_cases c51:j<51
 .rw[if_pos c51];refine (hi (39+3*((j-39)/3)+(j-39)%3) Yo (kf _ Yo Yo Yo)).trans ?_
  congr 1;omega
 rw[if_neg c51];by_cases c55:j<55
 .rw[if_pos c55];refine (hi (51+(j-51)) Yo (kf _ Yo Yo Yo)).trans ?_
  congr 1;omega
 rw[if_neg c55];by_cases c67:j<67
 .rw[if_pos c67];refine (hi (55+3*((j-55)/3)+(j-55)%3) Yo (kf _ Yo Yo Yo)).trans ?_
  congr 1;omega
 rw[if_neg c67];by_cases c70:j<70
 .rw[if_pos c70];refine (hi (67+(j-67)) Yo (kf _ Yo Yo Yo)).trans ?_
  congr 1;omega
 rw[if_neg c70];by_cases c71:j<71
 .rw[if_pos c71];obtain rfl:j=70:=Yo;exact hi 70 Yo rfl
 rw[if_neg c71];by_cases c72:j<72
 .rw[if_pos c72];obtain rfl:j=71:=Yo;exact hi 71 Yo rfl
 rw[if_neg c72];by_cases c73:j<73
 .rw[if_pos c73];obtain rfl:j=72:=Yo;exact hb 72 Yo rfl
 .rw[if_neg c73];obtain rfl:j=73:=Yo;rfl
theorem aNr(h:∀j,R64 (vI (f j)))(hl:l.length<=140737488351232):NdOK (ofC f l):=
 ⟨h _,h _,⟨h _,h _,h _,h _⟩,λ_=>⟨h _,h _,h _,h _,h _,h _⟩,λ_=>h _,λ_=>h _,λ_ _=>h _,λ_=>h _,λ_ _=>h _,λ_=>h _,h _,h _,hl⟩
variable{cs:List Value}
theorem SN{n:Nat}(hl:cs.length=n)(h:∀j,j<n->cs[j]?=some (f j)):Value.agg cs.toArray=aN f 0 n:=by
 unfold aN
 congr 2
 refine List.ext_getElem? (λj=>?_);by_cases hj:j<n
 .rw[h j hj,List.getElem?_map,List.getElem?_range hj];show _=some (f (0+j))
  rw[Nat.zero_add]
 .rw[List.getElem?_eq_none Yo,List.getElem?_eq_none (by simp;omega)]
section
variable {H:Type} {enc:TypeId×Value->H} {w:World} {base:Nat} {held:Bool}
theorem lC{o n j0:Nat}{K:Nat->Bool}{K2:Nat->Bool}(h:∀j v,j<n->cs[o+j]?=some v->CellK (K j) v)(hl:o+n<=cs.length)(h1:o<=j0)(h2:j0<o+n)(e:K (j0-o)=K2 j0):CellK (K2 j0) (cs.getD j0 (.int .i64 0)):=by
 rw[<-e];refine h (j0-o) _ Yo ?_;rw[Nat.add_sub_cancel' h1,List.getD_eq_getElem?_getD,List.getElem?_eq_getElem Yo];rfl
variable{x:DataW H×List MemPlace}
set_option maxRecDepth 100000 in
theorem aHA{fuel:Nat}(h:DataW.trod enc Tryz.prog w base (λ_=>true) held fuel 37 cs=some x)(hsz:∀n∈x.1.weights Tryz.prog 37,n<=reachBytes):∃(n:Nd) (ao:Option Addr) (c:Nat),cs.length=74/\(∀j,j<74->cs[j]?=some (ndF n (.slice ao n.vA.length c) j))/\NdOK n/\nJ w n ao c/\n.vA.length<=c:=by
 obtain⟨xs,m,_,ex,hl,hlen,hx⟩:=DataW.trod_struct Tryz.underlying37 h;have hl:cs.length=74:=hl.trans Yl;have hlen:xs.length=11:=hlen;have p0:=iX (K:=λ_=>false) (n:=1) Tryz.underlying37 (i:=0) rfl flat_int h;have p1:=iX (K:=λ_=>false) (n:=1) Tryz.underlying37 (i:=1) rfl flat_int h;have p2:=iX (n:=4) Tryz.underlying37 (i:=2) rfl aJz h;have p3:=iX (n:=21) Tryz.underlying37 (i:=3) rfl aKA h;have p4:=iX (n:=12) Tryz.underlying37 (i:=4) rfl aJX h;have p5:=iX (n:=12) Tryz.underlying37 (i:=5) rfl GK h;have p6:=iX (n:=4) Tryz.underlying37 (i:=6) rfl aLy h;have p7:=iX (n:=12) Tryz.underlying37 (i:=7) rfl GK h;have p8:=iX (n:=3) Tryz.underlying37 (i:=8) rfl aAP h;have p9:=iX (n:=1) Tryz.underlying37 (i:=9) rfl flat_int h;have h10:=hx 10 _ rfl;rw[List.getElem?_eq_getElem Yo] at h10;obtain⟨y,ey⟩:∃y,y=xs[10]:=⟨_,rfl⟩;rw[<-ey] at h10;have ev3:Tryz.prog.cellsOf 35=3:=by kernel_rfl
 have h10':DataW.trod enc Tryz.prog w base (λ_=>true) held m 35 ((cs.drop 71).take (Tryz.prog.cellsOf 35))=some y:=h10;rw[ev3] at h10';obtain⟨y0,y1,y2,m2,e,_,g0,g1,g2⟩:=Go.Deep.trod_struct3 Tryz.underlying35 h10';obtain⟨c0,c1,c2,ec⟩:∃c0 c1 c2,(cs.drop 71).take 3=[c0,c1,c2]:=by
  have:((cs.drop 71).take 3).length=3:=by rw[List.length_take,List.length_drop,hl];rfl
  match hq:(cs.drop 71).take 3,this with
  |[c0,c1,c2],_=>exact⟨c0,c1,c2,rfl⟩
 rw[ec] at g0 g1 g2;have k0:DataW.trod enc Tryz.prog w base (λ_=>true) held m2 3 [c0]=some y0:=by rw[AA] at g0;exact g0
 have k1:DataW.trod enc Tryz.prog w base (λ_=>true) held m2 4 [c1]=some y1:=by rw[P6] at g1;exact g1
 have k2:DataW.trod enc Tryz.prog w base (λ_=>true) held m2 33 [c2]=some y2:=by rw[show Tryz.prog.cellsOf 33=1 by kernel_rfl] at g2;exact g2
 have q0:=flat_int.2 _ _ _ k0 0 c0 rfl;have q1:=BI.2 _ _ _ k1 0 c1 rfl;have hg:∀k,k<3->cs[71+k]?=[c0,c1,c2][k]?:=λk hk=>by rw[<-ec,mV hk]
 obtain⟨ao,c,l,rfl,hs,hl1,hl2⟩:=aBN k2 (λn hn=>hsz n (by
  rw[ex];simp only[DataW.weights,Tryz.underlying37];refine DataW.weights_mem_each (j:=10) (t:=35) (d:=y.1) rfl (by rw[List.getElem?_map,List.getElem?_eq_getElem Yo, <-ey];rfl) n ?_;rw[e];simp only[DataW.weights,Tryz.underlying35,List.map,DataW.weightsEach];simp only[List.mem_append];exact Or.inr (Or.inr (Or.inl hn))))
 have hc:∀j,j<73->CellK (KN j) (cs.getD j (.int .i64 0)):=λj hj=>by
  by_cases r0:j<1
  .exact lC (o:=0) p0 Yo Yo Yo (by rw[show j=0 by omega];rfl)
  by_cases r1:j<2
  .exact lC (o:=1) p1 Yo Yo Yo (by rw[show j=1 by omega];rfl)
  have kf:¬(27<=j/\j<31)->¬(6<=j/\j<27/\(j-6)%7=5)->j≠72->false=KN j:=λa b c=>by
   unfold KN;rw[Xf a,Xf b,Xf c];rfl
  by_cases r2:j<6
  .exact lC (o:=2) p2 Yo Yo Yo (kf Yo Yo Yo)
  by_cases r3:j<27
  .refine lC (o:=6) p3 Yo Yo Yo ?_;unfold KN;rw[Xf (show ¬(27<=j/\j<31) by omega),Xf (show ¬j=72 by omega),Bool.false_or,Bool.or_false];exact decide_eq_decide.2 ⟨λh=>⟨Yo,Yo,h⟩,λh=>h.2.2⟩
  by_cases r4:j<39
  .refine lC (o:=27) p4 Yo Yo Yo ?_;unfold KN;rw[Xf (show ¬(6<=j/\j<27/\(j-6)%7=5) by omega),Xf (show ¬j=72 by omega),Bool.or_false,Bool.or_false];exact decide_eq_decide.2 ⟨λh=>⟨Yo,Yo⟩,λh=>by omega⟩
  by_cases r5:j<51
  .exact lC (o:=39) p5 Yo Yo Yo (kf Yo Yo Yo)
  by_cases r6:j<55
  .exact lC (o:=51) p6 Yo Yo Yo (kf Yo Yo Yo)
  by_cases r7:j<67
  .exact lC (o:=55) p7 Yo Yo Yo (kf Yo Yo Yo)
  by_cases r8:j<70
  .exact lC (o:=67) p8 Yo Yo Yo (kf Yo Yo Yo)
  by_cases r9:j<71
  .exact lC (o:=70) p9 Yo Yo Yo (kf Yo Yo Yo)
  rw[List.getD_eq_getElem?_getD];by_cases r10:j<72
  .obtain rfl:j=71:=Yo;rw[show (71:Nat)=71+0 from rfl,hg 0 Yo];exact q0
  .obtain rfl:j=72:=Yo;rw[show (72:Nat)=71+1 from rfl,hg 1 Yo];exact q1
 have e73:cs.getD 73 (.int .i64 0)=.slice ao l.length c:=by
  rw[List.getD_eq_getElem?_getD,show (73:Nat)=71+2 from rfl,hg 2 Yo];rfl
 have hR:∀j,R64 (vI (cs.getD j (.int .i64 0))):=λj=>by
  by_cases hj:j<73
  .exact (hc j hj).R
  by_cases hj2:j=73
  .rw[hj2,e73];exact gU
  .rw[List.getD_eq_getElem?_getD,List.getElem?_eq_none Yo];exact gU
 refine⟨ofC (λj=>cs.getD j (.int .i64 0)) l,ao,c,hl,λj hj=>?_,aNr hR hl1,hs,hl2⟩;have:=aKr (l:=l) hc j hj;rw[e73] at this;refine Eq.trans ?_ (congrArg some this.symm);rw[List.getD_eq_getElem?_getD,List.getElem?_eq_getElem Yo];rfl
variable{l:List (DataW H)}
theorem xY{e:TypeId}{d:DataW H}(hd:d∈l):∀n,n∈d.weights Tryz.prog e->n∈DataW.weightsAll Tryz.prog e l:=by
 induction l with
 |nil=>cases hd
 |cons x l ih=>
  intro n hn;unfold DataW.weightsAll;rcases List.mem_cons.1 hd with rfl|hd
  .exact List.mem_append.2 (Or.inl hn)
  .exact List.mem_append.2 (Or.inr (ih hd n hn))
end
end Go.Proofs.YthimcecbgpamdaaGreat
namespace Go.Proofs.YthimcecbgpamdaaGreat
open Go.ChangeShapes Go.WideShapes Go.ChangeAt Go.RowKit Go.Joins
set_option maxRecDepth 100000
def ArgB(w:World)(ao:Option Addr)(len cap:Nat)(g:Nat->Nat):Prop:=
 Sr w ao len cap (bF g)/\len<=140737488351232/\(∀i,g i<256)/\len<=cap
variable{ao:Option Addr}
theorem ArgB.below{w w':World}{len cap:Nat}{g:Nat->Nat}(h:ArgB w ao len cap g)(k:Below w.heap.size w w'):ArgB w' ao len cap g:=⟨h.1.below k,h.2⟩
theorem aCJ:Tryz.prog.bytesOf 5=1:=Yl
theorem aCu:Tryz.prog.cellsOf 5=1:=Yl
section
variable {H:Type} {enc:TypeId×Value->H} {w:World} {base:Nat} {held:Bool}
variable{x:DataW H×List MemPlace}
set_option maxRecDepth 100000 in
theorem aBd{fuel:Nat}{v:Value}(h:DataW.trod enc Tryz.prog w base (λ_=>true) held fuel 76 [v]=some x)(hsz:∀n∈x.1.weights Tryz.prog 76,n<=reachBytes):∃ao len cap g,v=.slice ao len cap/\ArgB w ao len cap g:=by
 rcases open_ints Tryz.underlying76 Tryz.underlying5 aCu h with ⟨hcs,_⟩|⟨a,len,cap,zs,hcs,_,hl,_,hz,hx,hcell,hwz⟩
 .simp at hcs;exact⟨none,0,0,λ_=>0,hcs,Or.inl ⟨rfl,rfl,rfl⟩,by decide,λ_=>by show 0<256;omega,Xr _⟩
 .simp at hcs;have hz':zs.length=cap:=by simpa using hz
  have hb:zs.length*1<=reachBytes:=by
   refine hsz _ ?_;rw[hx];simp[DataW.weights,Tryz.underlying76,aCJ,lits];left;omega
  have hw:∀i,i<zs.length->0<=zs.getD i 0/\zs.getD i 0<256:=by
   intro i hi;have e:zs.getD i 0=zs[i]:=by simp[List.getD,hi]
   have:=hwz _ (List.getElem_mem hi);rw[e];simp[Lit.wf,IntKind.min,IntKind.max,IntKind.bits,IntKind.signed] at this;omega
  refine⟨some a,len,cap,λi=>if i<len then (zs.getD i 0).toNat else 0,hcs,Or.inr ⟨a,rfl,λi hi=>?_⟩,by unfold reachBytes at hb;omega,λi=>?_,hl⟩
  .rw[hcell i Yo];show some (Value.int .u8 (zs.getD i 0))=some (Value.int .u8 ((if i<len then (zs.getD i 0).toNat else 0:Nat):Int))
   rw[if_pos hi,Int.toNat_of_nonneg (hw i Yo).1]
  .show (if i<len then (zs.getD i 0).toNat else 0)<256
   split
   .have:=hw i Yo;omega
   .omega
end
end Go.Proofs.YthimcecbgpamdaaGreat
namespace Go.Proofs.YthimcecbgpamdaaGreat
open Go
variable{Q:Exit->Act->World->Prop}{R:Ending->World->Prop}{o:Oper}{K:Act->World->Prop}{a:Act}{P:Program}
theorem nW(w:World)(n:Nat)(x y z u:Operand)(T:Array TypeId)(ho:o.op=.call { callee:=.value (.func n),args:=#[x,y,z,u],argTypes:=T }){p q r s:Value}(hx:a.eval x=p)(hy:a.eval y=q)(hz:a.eval z=r)(hu:a.eval u=s)(hf:(callFunc n #[p,q,r,s]).run P w=.ok (.enter n #[p,q,r,s]) w)(hc:Calls P n #[p,q,r,s] w R)(h:∀e w',R e w'->∃r,e=.returned r/\K (a.put o.dst r) w'):WpI P o a w K Q:=by
 refine⟨?_⟩;have e:(execOp a.eval o).run P w=.ok (.enter n #[p,q,r,s]) w:=by
  unfold execOp;rw[ho];have hv2:a.eval (Operand.func n)=.func (.func n) #[] #[]:=rfl;simp only[resolve,invoke,Sem.run_bind,List.map_toArray,List.map_cons,List.map_nil,hx,hy,hz,hu,hv2];go_simp
 unfold Oper.wp;rw[e,Oper.upon_enter];refine hc.mono ?_;intro e w' hr;obtain⟨r,rfl,hk⟩:=h e w' hr;exact hk
theorem VR(w:World)(n:Nat)(x y z u v x6:Operand)(T:Array TypeId)(ho:o.op=.call { callee:=.value (.func n),args:=#[x,y,z,u,v,x6],argTypes:=T }){p q r s t p6:Value}(hx:a.eval x=p)(hy:a.eval y=q)(hz:a.eval z=r)(hu:a.eval u=s)(hv:a.eval v=t)(h6:a.eval x6=p6)(hf:(callFunc n #[p,q,r,s,t,p6]).run P w=.ok (.enter n #[p,q,r,s,t,p6]) w)(hc:Calls P n #[p,q,r,s,t,p6] w R)(h:∀e w',R e w'->∃r,e=.returned r/\K (a.put o.dst r) w'):WpI P o a w K Q:=by
 refine⟨?_⟩;have e:(execOp a.eval o).run P w=.ok (.enter n #[p,q,r,s,t,p6]) w:=by
  unfold execOp;rw[ho];have hv2:a.eval (Operand.func n)=.func (.func n) #[] #[]:=rfl;simp only[resolve,invoke,Sem.run_bind,List.map_toArray,List.map_cons,List.map_nil,hx,hy,hz,hu,hv,h6,hv2];go_simp
 unfold Oper.wp;rw[e,Oper.upon_enter];refine hc.mono ?_;intro e w' hr;obtain⟨r,rfl,hk⟩:=h e w' hr;exact hk
theorem iD(w:World)(n:Nat)(x y z:Operand)(T:Array TypeId)(ho:o.op=.call { callee:=.value (.func n),args:=#[x,y,z],argTypes:=T }){p q r:Value}(hx:a.eval x=p)(hy:a.eval y=q)(hz:a.eval z=r)(hf:(callFunc n #[p,q,r]).run P w=.ok (.enter n #[p,q,r]) w)(hc:Calls P n #[p,q,r] w R)(h:∀e w',R e w'->∃r,e=.returned r/\K (a.put o.dst r) w'):WpI P o a w K Q:=by
 refine⟨?_⟩;have e:(execOp a.eval o).run P w=.ok (.enter n #[p,q,r]) w:=by
  unfold execOp;rw[ho];have hv2:a.eval (Operand.func n)=.func (.func n) #[] #[]:=rfl;simp only[resolve,invoke,Sem.run_bind,List.map_toArray,List.map_cons,List.map_nil,hx,hy,hz,hv2];go_simp
 unfold Oper.wp;rw[e,Oper.upon_enter];refine hc.mono ?_;intro e w' hr;obtain⟨r,rfl,hk⟩:=h e w' hr;exact hk
end Go.Proofs.YthimcecbgpamdaaGreat
namespace Go.Proofs.YthimcecbgpamdaaGreat
open Go.RowKit
structure It where
 p:World->Prop
 foot:Nat->Prop
 ok:∀{w w':World},p w->(∀k,k<w.heap.size->foot k->w'.heap[k]?=w.heap[k]?)->p w'
 lt:∀{w:World} {k:Nat},p w->foot k->k<w.heap.size
variable{w:World}{n:Nat}{t:TypeId}
theorem CQ{B s:Nat}{w':World}{v:Value}{xs:List Value}(h:w.ownsRow B t s v n xs)(e:∀k,v.ownBlock=some k->w'.heap[k]?=w.heap[k]?):w'.ownsRow B t s v n xs:=by
 refine⟨h.1,?_⟩;rcases h.2 with hn|⟨g,cap,cur,rfl,hb,hgg,rest⟩
 .exact .inl hn
 .exact .inr ⟨g,cap,cur,rfl,hb,(e g rfl).trans hgg,rest⟩
def vhI(t:TypeId)(b N cap:Nat)(g:Nat->Value):It:=⟨λw=>Vh t w b N cap g,λk=>k=b,λh e=>Vh.same h (e _ h.lt rfl),λh e=>e ▸ h.lt⟩
def gB(B:Nat)(t:TypeId)(s:Nat)(v:Value)(n:Nat)(xs:List Value):It:=⟨λw=>w.ownsRow B t s v n xs,λk=>v.ownBlock=some k,λh e=>CQ h (λk hk=>e k (h.lt k hk).2 hk),λh e=>(h.lt _ e).2⟩
structure Cx (w0 w:World) (l:List It):Prop where
 bel:Below w0.heap.size w0 w
 it:∀x,x∈l->x.p w
 up:∀x,x∈l->∀k,x.foot k->w0.heap.size<=k
 dis:l.Pairwise λx y=>∀k,x.foot k->¬y.foot k
section
variable {w0 w w':World} {l a b:List It} {x y:It}
theorem Cx.start(w0:World):Cx w0 w0 []:=⟨Below.refl _ _,λ_ h=>(by cases h),λ_ h=>(by cases h),List.Pairwise.nil⟩
theorem Cx.size(H:Cx w0 w l):w0.heap.size<=w.heap.size:=H.bel.size
theorem Cx.call(H:Cx w0 w l)(k:Below w.heap.size w w'):Cx w0 w' l:=⟨H.bel.trans (k.mono H.size),λx hx=>x.ok (H.it x hx) (λj hj _=>k.block j hj),H.up,H.dis⟩
theorem Cx.drew(H:Cx w0 w l):Cx w0 w.drew l:=H.call ⟨rfl,rfl,rfl,Xr _,λ_ _=>rfl⟩
theorem Cx.add(H:Cx w0 w l)(k:Below w.heap.size w w')(x:It)(hx:x.p w')(hf:∀j,x.foot j->w.heap.size<=j):Cx w0 w' (x::l):=by
 have H':=H.call k;have hs:=H.size;refine⟨H'.bel,λy hy=>?_,λy hy j hj=>?_,List.Pairwise.cons (λy hy j h1 h2=>?_) H.dis⟩
 .rcases List.mem_cons.1 hy with rfl|hy
  .exact hx
  .exact H'.it y hy
 .rcases List.mem_cons.1 hy with rfl|hy
  .have:=hf j hj;omega
  .exact H.up y hy j hj
 .have h3:=hf j h1;have h4:=y.lt (H.it y hy) h2;omega
structure Chg (w w':World) (x y:It):Prop where
 os:w'.os=w.os
 tape:w'.tape=w.tape
 output:w'.output=w.output
 size:w.heap.size<=w'.heap.size
 hk:∀k,k<w.heap.size->¬x.foot k->w'.heap[k]?=w.heap[k]?
 hy:y.p w'
 hf:∀j,y.foot j->x.foot j\/w.heap.size<=j
theorem Cx.p0(H:Cx w0 w (x::b))(c:Chg w w' x y):Cx w0 w' (y::b):=by
 have hs:=H.size;obtain⟨d4,d5⟩:=List.pairwise_cons.1 H.dis;have hx:x∈x::b:=List.mem_cons_self;have inB:∀z,z∈b->z∈x::b:=λz hz=>List.mem_cons_of_mem _ hz
 refine⟨⟨c.os.trans H.bel.os,c.tape.trans H.bel.tape,c.output.trans H.bel.output,Nat.le_trans H.bel.size c.size,λk hkk=>(c.hk k Yo (λe=>by have:=H.up x hx k e;omega)).trans (H.bel.block k hkk)⟩,λz hz=>?_,λz hz j hj=>?_,List.pairwise_cons.2 ⟨λz hz j h1 h2=>?_,d5⟩⟩
 .rcases List.mem_cons.1 hz with rfl|hz
  .exact c.hy
  .exact z.ok (H.it z (inB z hz)) (λk h1 h2=>c.hk k h1 (λh3=>d4 z hz k h3 h2))
 .rcases List.mem_cons.1 hz with rfl|hz
  .rcases c.hf j hj with h|h
   .exact H.up x hx j h
   .omega
  .exact H.up z (inB z hz) j hj
 .rcases c.hf j h1 with h|h
  .exact d4 z hz j h h2
  .have:=z.lt (H.it z (inB z hz)) h2;omega
variable{m:List It}
theorem Cx.sub(H:Cx w0 w l)(h:m.Sublist l):Cx w0 w m:=⟨H.bel,λx hx=>H.it x (h.subset hx),λx hx=>H.up x (h.subset hx),H.dis.sublist h⟩
theorem Cx.perm(H:Cx w0 w l)(h:l.Perm m):Cx w0 w m:=⟨H.bel,λx hx=>H.it x (h.mem_iff.2 hx),λx hx=>H.up x (h.mem_iff.2 hx),H.dis.perm h (λh1 k h2 h3=>h1 k h3 h2)⟩
theorem Cx.base{v0:World}(H:Cx w0 w l)(k:Below v0.heap.size v0 w0)(hs:v0.heap.size<=w0.heap.size):Cx v0 w l:=⟨k.trans (H.bel.mono hs),H.it,λx hx j hj=>Nat.le_trans hs (H.up x hx j hj),H.dis⟩
theorem Cx.tl(H:Cx w0 w (x::l)):Cx w0 w l:=H.sub (List.sublist_cons_self x l)
end
structure Its (l:List It) (w:World):Prop where
 it:∀x,x∈l->x.p w
variable{l:List It}
theorem Cx.its{w0:World}(H:Cx w0 w l):Its l w:=⟨H.it⟩
theorem Its.nil(w:World):Its [] w:=⟨λ_ h=>(by cases h)⟩
variable{x:It}
theorem Its.cons(h:x.p w)(t:Its l w):Its (x::l) w:=⟨λy hy=>by
 rcases List.mem_cons.1 hy with rfl|hy
 .exact h
 .exact t.it y hy⟩
theorem Its.tl(h:Its (x::l) w):Its l w:=⟨λy hy=>h.it y (List.mem_cons_of_mem _ hy)⟩
structure AtK (w0 w:World) (x:It) (F:It->List It):Prop where
 o:x.p w
 size:w0.heap.size<=w.heap.size
 put:∀{w':World} {y:It},Chg w w' x y->Cx w0 w' (F y)
section
variable {w0 w w':World} {x0 x1 x2 x3 x4 x5 x6 x7 x8 x:It} {l:List It} {t:TypeId} {b N cap:Nat} {g g':Nat->Value} {F:It->List It}
theorem AtK.s(H:AtK w0 w (vhI t b N cap g) F)(k:Kept b w w')(m:Vh t w' b N cap g'):Cx w0 w' (F (vhI t b N cap g')):=H.put ⟨k.os,k.tape,k.output,k.size,λj h1 h2=>k.block j h1 h2,m,λ_ h=>Or.inl h⟩
theorem Cx.o0(H:Cx w0 w (x::l)):x.p w:=H.it _ List.mem_cons_self
theorem Cx.v0(H:Cx w0 w (vhI t b N cap g::l)):Vh t w b N cap g:=H.o0
theorem Its.v0(H:Its (vhI t b N cap g::l) w):Vh t w b N cap g:=H.it _ List.mem_cons_self
theorem Cx.a0(H:Cx w0 w (x::l)):AtK w0 w x (λy=>y::l):=⟨H.o0,H.size,λc=>H.p0 c⟩
theorem Cx.f1(H:Cx w0 w (x0::x::l)):Cx w0 w (x::x0::l):=H.perm (List.perm_middle (l₁:=[x0]))
theorem Cx.b1(H:Cx w0 w (x::x0::l)):Cx w0 w (x0::x::l):=H.perm (List.perm_middle (l₁:=[x0])).symm
theorem Cx.o1(H:Cx w0 w (x0::x::l)):x.p w:=H.f1.o0
theorem Cx.v1(H:Cx w0 w (x0::vhI t b N cap g::l)):Vh t w b N cap g:=H.o1
theorem Its.v1(H:Its (x0::vhI t b N cap g::l) w):Vh t w b N cap g:=H.tl.v0
theorem Cx.a1(H:Cx w0 w (x0::x::l)):AtK w0 w x (λy=>x0::y::l):=⟨H.o1,H.size,λc=>(H.f1.p0 c).b1⟩
theorem Cx.f2(H:Cx w0 w (x0::x1::x::l)):Cx w0 w (x::x0::x1::l):=H.perm (List.perm_middle (l₁:=[x0,x1]))
theorem Cx.b2(H:Cx w0 w (x::x0::x1::l)):Cx w0 w (x0::x1::x::l):=H.perm (List.perm_middle (l₁:=[x0,x1])).symm
theorem Cx.o2(H:Cx w0 w (x0::x1::x::l)):x.p w:=H.f2.o0
theorem Cx.v2(H:Cx w0 w (x0::x1::vhI t b N cap g::l)):Vh t w b N cap g:=H.o2
theorem Its.v2(H:Its (x0::x1::vhI t b N cap g::l) w):Vh t w b N cap g:=H.tl.v1
theorem Cx.a2(H:Cx w0 w (x0::x1::x::l)):AtK w0 w x (λy=>x0::x1::y::l):=⟨H.o2,H.size,λc=>(H.f2.p0 c).b2⟩
theorem Cx.f3(H:Cx w0 w (x0::x1::x2::x::l)):Cx w0 w (x::x0::x1::x2::l):=H.perm (List.perm_middle (l₁:=[x0,x1,x2]))
theorem Cx.b3(H:Cx w0 w (x::x0::x1::x2::l)):Cx w0 w (x0::x1::x2::x::l):=H.perm (List.perm_middle (l₁:=[x0,x1,x2])).symm
theorem Cx.o3(H:Cx w0 w (x0::x1::x2::x::l)):x.p w:=H.f3.o0
theorem Cx.v3(H:Cx w0 w (x0::x1::x2::vhI t b N cap g::l)):Vh t w b N cap g:=H.o3
theorem Its.v3(H:Its (x0::x1::x2::vhI t b N cap g::l) w):Vh t w b N cap g:=H.tl.v2
theorem Cx.a3(H:Cx w0 w (x0::x1::x2::x::l)):AtK w0 w x (λy=>x0::x1::x2::y::l):=⟨H.o3,H.size,λc=>(H.f3.p0 c).b3⟩
theorem Cx.f4(H:Cx w0 w (x0::x1::x2::x3::x::l)):Cx w0 w (x::x0::x1::x2::x3::l):=H.perm (List.perm_middle (l₁:=[x0,x1,x2,x3]))
theorem Cx.b4(H:Cx w0 w (x::x0::x1::x2::x3::l)):Cx w0 w (x0::x1::x2::x3::x::l):=H.perm (List.perm_middle (l₁:=[x0,x1,x2,x3])).symm
theorem Cx.o4(H:Cx w0 w (x0::x1::x2::x3::x::l)):x.p w:=H.f4.o0
theorem Cx.v4(H:Cx w0 w (x0::x1::x2::x3::vhI t b N cap g::l)):Vh t w b N cap g:=H.o4
theorem Its.v4(H:Its (x0::x1::x2::x3::vhI t b N cap g::l) w):Vh t w b N cap g:=H.tl.v3
theorem Cx.a4(H:Cx w0 w (x0::x1::x2::x3::x::l)):AtK w0 w x (λy=>x0::x1::x2::x3::y::l):=⟨H.o4,H.size,λc=>(H.f4.p0 c).b4⟩
theorem Cx.f5(H:Cx w0 w (x0::x1::x2::x3::x4::x::l)):Cx w0 w (x::x0::x1::x2::x3::x4::l):=H.perm (List.perm_middle (l₁:=[x0,x1,x2,x3,x4]))
theorem Cx.b5(H:Cx w0 w (x::x0::x1::x2::x3::x4::l)):Cx w0 w (x0::x1::x2::x3::x4::x::l):=H.perm (List.perm_middle (l₁:=[x0,x1,x2,x3,x4])).symm
theorem Cx.o5(H:Cx w0 w (x0::x1::x2::x3::x4::x::l)):x.p w:=H.f5.o0
theorem Cx.v5(H:Cx w0 w (x0::x1::x2::x3::x4::vhI t b N cap g::l)):Vh t w b N cap g:=H.o5
theorem Its.v5(H:Its (x0::x1::x2::x3::x4::vhI t b N cap g::l) w):Vh t w b N cap g:=H.tl.v4
theorem Cx.a5(H:Cx w0 w (x0::x1::x2::x3::x4::x::l)):AtK w0 w x (λy=>x0::x1::x2::x3::x4::y::l):=⟨H.o5,H.size,λc=>(H.f5.p0 c).b5⟩
theorem Cx.f6(H:Cx w0 w (x0::x1::x2::x3::x4::x5::x::l)):Cx w0 w (x::x0::x1::x2::x3::x4::x5::l):=H.perm (List.perm_middle (l₁:=[x0,x1,x2,x3,x4,x5]))
theorem Cx.b6(H:Cx w0 w (x::x0::x1::x2::x3::x4::x5::l)):Cx w0 w (x0::x1::x2::x3::x4::x5::x::l):=H.perm (List.perm_middle (l₁:=[x0,x1,x2,x3,x4,x5])).symm
theorem Cx.o6(H:Cx w0 w (x0::x1::x2::x3::x4::x5::x::l)):x.p w:=H.f6.o0
theorem Cx.v6(H:Cx w0 w (x0::x1::x2::x3::x4::x5::vhI t b N cap g::l)):Vh t w b N cap g:=H.o6
theorem Its.v6(H:Its (x0::x1::x2::x3::x4::x5::vhI t b N cap g::l) w):Vh t w b N cap g:=H.tl.v5
theorem Cx.a6(H:Cx w0 w (x0::x1::x2::x3::x4::x5::x::l)):AtK w0 w x (λy=>x0::x1::x2::x3::x4::x5::y::l):=⟨H.o6,H.size,λc=>(H.f6.p0 c).b6⟩
theorem Cx.f7(H:Cx w0 w (x0::x1::x2::x3::x4::x5::x6::x::l)):Cx w0 w (x::x0::x1::x2::x3::x4::x5::x6::l):=H.perm (List.perm_middle (l₁:=[x0,x1,x2,x3,x4,x5,x6]))
theorem Cx.o7(H:Cx w0 w (x0::x1::x2::x3::x4::x5::x6::x::l)):x.p w:=H.f7.o0
theorem Cx.v7(H:Cx w0 w (x0::x1::x2::x3::x4::x5::x6::vhI t b N cap g::l)):Vh t w b N cap g:=H.o7
theorem Its.v7(H:Its (x0::x1::x2::x3::x4::x5::x6::vhI t b N cap g::l) w):Vh t w b N cap g:=H.tl.v6
theorem Cx.f8(H:Cx w0 w (x0::x1::x2::x3::x4::x5::x6::x7::x::l)):Cx w0 w (x::x0::x1::x2::x3::x4::x5::x6::x7::l):=H.perm (List.perm_middle (l₁:=[x0,x1,x2,x3,x4,x5,x6,x7]))
theorem Cx.b8(H:Cx w0 w (x::x0::x1::x2::x3::x4::x5::x6::x7::l)):Cx w0 w (x0::x1::x2::x3::x4::x5::x6::x7::x::l):=H.perm (List.perm_middle (l₁:=[x0,x1,x2,x3,x4,x5,x6,x7])).symm
theorem Cx.o8(H:Cx w0 w (x0::x1::x2::x3::x4::x5::x6::x7::x::l)):x.p w:=H.f8.o0
theorem Cx.v8(H:Cx w0 w (x0::x1::x2::x3::x4::x5::x6::x7::vhI t b N cap g::l)):Vh t w b N cap g:=H.o8
theorem Its.v8(H:Its (x0::x1::x2::x3::x4::x5::x6::x7::vhI t b N cap g::l) w):Vh t w b N cap g:=H.tl.v7
theorem Cx.a8(H:Cx w0 w (x0::x1::x2::x3::x4::x5::x6::x7::x::l)):AtK w0 w x (λy=>x0::x1::x2::x3::x4::x5::x6::x7::y::l):=⟨H.o8,H.size,λc=>(H.f8.p0 c).b8⟩
theorem Cx.f9(H:Cx w0 w (x0::x1::x2::x3::x4::x5::x6::x7::x8::x::l)):Cx w0 w (x::x0::x1::x2::x3::x4::x5::x6::x7::x8::l):=H.perm (List.perm_middle (l₁:=[x0,x1,x2,x3,x4,x5,x6,x7,x8]))
theorem Cx.o9(H:Cx w0 w (x0::x1::x2::x3::x4::x5::x6::x7::x8::x::l)):x.p w:=H.f9.o0
theorem Cx.v9(H:Cx w0 w (x0::x1::x2::x3::x4::x5::x6::x7::x8::vhI t b N cap g::l)):Vh t w b N cap g:=H.o9
theorem Its.v9(H:Its (x0::x1::x2::x3::x4::x5::x6::x7::x8::vhI t b N cap g::l) w):Vh t w b N cap g:=H.tl.v8
end
class FldK (P:Program) (s:TypeId) (k:Nat) (d:outParam Nat):Prop where
 run:∀{f:Operand->Value} {o:Oper} {x:Operand} {b off:Nat},o.op=.fieldAddr s x k->f x=.pointer (some ⟨b,off,none⟩)->∀w,(execOp f o).run P w=.ok (.value (.pointer (some ⟨b,off+d,none⟩))) w
class ManyK (P:Program) (t:TypeId) (n:outParam Nat):Prop where
 out:Many P t n
class OneK (P:Program) (t:TypeId):Prop where
 out:OneC P t
class SizK (P:Program) (t:TypeId) (n:outParam Nat):Prop where
 out:∀w,(sizeOf t).run P w=.ok n w
class ArrK (P:Program) (s:TypeId) (len:outParam Nat) (e:outParam TypeId):Prop where
 out:P.underlying s=some (.array len e)
class SlcK (P:Program) (s:TypeId) (e:outParam TypeId):Prop where
 out:P.underlying s=some (.slice e)
class ZerK (P:Program) (t:TypeId) (n:outParam Nat) (f:outParam (Nat->Value)):Prop where
 out:∀w,(zeroValue t).run P w=.ok (aN f 0 n) w
class Zer1 (P:Program) (t:TypeId) (v:outParam Value):Prop where
 out:∀w,(zeroValue t).run P w=.ok v w
 one:v.cells=#[v]
class EntK (P:Program) (n:Nat):Prop where
 out:∀args w,(callFunc n args).run P w=.ok (.enter n args) w
class LenK (P:Program) (t:TypeId):Prop where
 run:∀{f:Operand->Value} {o:Oper} {x:Operand} {ao:Option Addr} {n c:Nat},o.op=.call { callee:=.builtin .len,args:=#[x],argTypes:=#[t] }->f x=.slice ao n c->∀w,(execOp f o).run P w=.ok (.value (.int .i64 ((n:Nat):Int))) w
instance {P:Program} {t:TypeId} {n:Nat} [h:ManyK P t n]:SizK P t n:=⟨h.out.size⟩
instance {P:Program} {t:TypeId} [h:OneK P t]:SizK P t 1:=⟨h.out.size⟩
section
variable {P:Program} {f:Operand->Value} {o:Oper}
theorem SS(x:Operand)(ho:o.op=.nilCheck x){a:Addr}(hx:f x=.pointer (some a))(w:World):(execOp f o).run P w=.ok (.value (.pointer (some a))) w:=Ykq
theorem mG(s e:TypeId)(x y:Operand)(ho:o.op=.indexAddr s x y)(hu:P.underlying s=some (.slice e))(hs:∀w,(sizeOf e).run P w=.ok n w){b off i len cap:Nat}{z:Int}(hx:f x=.slice (some ⟨b,off,none⟩) len cap)(hy:f y=.int .i64 z)(hz:z=(i:Int))(hi:i<len)(w:World):(execOp f o).run P w=.ok (.value (.pointer (some ⟨b,off+i*n,none⟩))) w:=by
 subst hz;have h2:(i:Int)<(len:Int):=Yo;unfold execOp;simp only[ho,hx,hy,Instr.indexAt,asIntOf,Instr.sureAddr,Sem.run_bind,Sem.run_pure,Result.andThen_ok,run_underlying hu,add_at];simp[h2,hs]
theorem iM{ty:TypeId}{x:Operand}(T:Many P ty n){b off:Nat}{g:Nat->Value}(hc:∀k,k<n->w.cell? ⟨b,off+k,none⟩=some (g k))(ho:o.op=.load ty x)(hx:f x=.pointer (some ⟨b,off,none⟩)):(execOp f o).run P w=.ok (.value (aN g 0 n)) w:=by
 have hl:(loadCells ⟨b,off,none⟩ n).run P w=.ok ((List.range n).map λj=>g (0+j)).toArray w:=
  run_loadCells w ⟨b,off,none⟩ n (λj=>g (0+j)) (λj hj=>by rw[add_at,Nat.zero_add];exact hc j hj)
 unfold execOp;simp only[ho,hx,Instr.loadAt,Instr.sureAddr,loadVar,Sem.run_bind,Sem.run_pure,Result.andThen_ok,T.agg,T.size,hl,if_true];rfl
variable{vs:Array Value}
theorem LC(fn:Fn)(xs:Array Operand)(ho:o.op=.makeFunc fn #[] xs)(hx:xs.map f=vs)(w:World):(execOp f o).run P w=.ok (.value (.func fn #[] vs)) w:=Yg
theorem aLs(a:Act)(n:Nat):a.eval (.func n)=.func (.func n) #[] #[]:=rfl
end
variable{p:Prop}
theorem Qv(h:p:=by first|exact QJ rfl Yo|exact wU rfl (by assumption)|exact aJ _ _|exact aLs _ _):p:=h
theorem Qh(h:p:=by first|exact H.v0|exact H.v1|exact H.v2|exact H.v3|exact H.v4|exact H.v5|exact H.v6|exact H.v7|exact H.v8|exact H.v9|exact Vh.below G0 H.bel|exact Vh.below G1 H.bel|exact Vh.below G2 H.bel|assumption):p:=h
section
variable {P:Program} {ops:Array Oper} {Q:Exit->Act->World->Prop} {A:Act} {L:List (Nat×Value)} {w0 w:World} {rest:List Oper} {o:Oper} {d:Nat} {v:Value} {l:List It}
theorem qa (h : LstI P ops Q rest (aQ A ((d, v) :: L)) w) (hd : o.dst = some d := by rfl) (hw : Region.wanted o (yielded ops (aQ A L).tmps) = true := by first | exact dX rfl | exact dB rfl rfl rfl Qv) (hy : (execOp (aQ A L).eval o).run P w = .ok (.value v) w := by first
   |exact dL _ rfl Qv _
   |exact kR _ rfl Qv _
   |exact FldK.run rfl Qv _
   |exact aY _ _ rfl OneK.out Qv Qh Yo rfl
   |exact aX _ _ rfl ManyK.out Qv Qh Yo
   |exact SS _ rfl Qv _
   |exact bD _ _ _ _ rfl ArrK.out SizK.out Qv Qv rfl Yo _
   |exact mG _ _ _ _ rfl SlcK.out SizK.out Qv Qv rfl Yo _
   |exact lD _ _ _ _ rfl ArrK.out ManyK.out Qv rfl Qv rfl Yo _
   |exact oL _ _ _ _ rfl ArrK.out OneK.out Qv Qv rfl Yo _
   |exact LenK.run rfl Qv _
   |exact fO _ _ rfl Qv Qv rfl _
   |exact fF _ _ rfl Qv Qv rfl _
   |exact bL _ _ rfl Qv Qv rfl _
   |exact dY _ _ rfl Qv Qv rfl _
   |exact P8 _ _ rfl Qv Qv rfl _
   |exact iL _ _ rfl Qv Qv rfl _
   |exact qI _ _ rfl Qv Qv rfl _
   |exact TP _ _ rfl Qv Qv rfl _
   |exact uQ _ _ rfl Qv Qv Yo Yo _
   |exact rZ _ _ rfl Qv Qv Yo Yo _
   |exact I7 _ _ rfl Qv _
   |exact lG _ rfl Qv _
   |exact lF _ rfl Qv _
   |exact jU _ rfl Qv _
   |exact jX _ rfl Qv _
   |exact jV _ rfl Qv _):LstI P ops Q (o::rest) (aQ A L) w:=TD hd hw hy h
theorem fU(h:LstI P ops Q rest (aQ A ((d,undef)::L)) w)(hd:o.dst=some d:=by rfl)(hw:Region.wanted o (yielded ops (aQ A L).tmps)=false:=by first|exact iW rfl rfl rfl Qv Yc|exact wanted_u rfl rfl rfl Qv):LstI P ops Q (o::rest) (aQ A L) w:=aEi hd hw h
theorem qg(hy:(execOp (aQ A L).eval o).run P w=.ok (.value v) w)(h:LstI P ops Q rest (aQ A ((d,v)::L)) w)(hd:o.dst=some d:=by rfl)(hw:Region.wanted o (yielded ops (aQ A L).tmps)=true:=by first|exact dX rfl|exact dB rfl rfl rfl Qv):LstI P ops Q (o::rest) (aQ A L) w:=TD hd hw hy h
variable {S:World->Prop} {late:Nat->Bool} {i:Nat} {r:PlanJ}
theorem qj (h : SeqJ P ops Q S late r (aQ A ((d, v) :: L)) w) (ho : ops[i]? = some o := by rfl) (hd : o.dst = some d := by rfl) (hQ : ∀ c a w, Q (.panic c) (a.put (some d) v) w -> Q (.panic c) a w := by exact λ_ _ _ h => h) (hw : Region.wanted o (yielded ops (aQ A L).tmps) = true := by first | exact dX rfl | exact dB rfl rfl rfl Qv) (hy : ∀ w, (execOp (aQ A L).eval o).run P w = .ok (.value v) w := by first
   |exact λw=>dL _ rfl Qv w
   |exact λw=>kR _ rfl Qv w
   |exact λw=>FldK.run rfl Qv w
   |exact λw=>SS _ rfl Qv w
   |exact λw=>bD _ _ _ _ rfl ArrK.out SizK.out Qv Qv rfl Yo w
   |exact λw=>mG _ _ _ _ rfl SlcK.out SizK.out Qv Qv rfl Yo w
   |exact λw=>lD _ _ _ _ rfl ArrK.out ManyK.out Qv rfl Qv rfl Yo w
   |exact λw=>oL _ _ _ _ rfl ArrK.out OneK.out Qv Qv rfl Yo w
   |exact λw=>LenK.run rfl Qv w
   |exact λw=>fO _ _ rfl Qv Qv rfl w
   |exact λw=>fF _ _ rfl Qv Qv rfl w
   |exact λw=>bL _ _ rfl Qv Qv rfl w
   |exact λw=>dY _ _ rfl Qv Qv rfl w
   |exact λw=>P8 _ _ rfl Qv Qv rfl w
   |exact λw=>iL _ _ rfl Qv Qv rfl w
   |exact λw=>qI _ _ rfl Qv Qv rfl w
   |exact λw=>TP _ _ rfl Qv Qv rfl w
   |exact λw=>uQ _ _ rfl Qv Qv Yo Yo w
   |exact λw=>rZ _ _ rfl Qv Qv Yo Yo w
   |exact λw=>I7 _ _ rfl Qv w
   |exact λw=>lG _ rfl Qv w
   |exact λw=>lF _ rfl Qv w
   |exact λw=>jU _ rfl Qv w
   |exact λw=>jX _ rfl Qv w
   |exact λw=>jV _ rfl Qv w):SeqJ P ops Q S late (.mv i r) (aQ A L) w:=fE ho hd hQ hw hy h
theorem qr (hS : S w) (h : SeqJ P ops Q S late r (aQ A ((d, v) :: L)) w) (ho : ops[i]? = some o := by rfl) (hd : o.dst = some d := by rfl) (hQ : ∀ c a w, Q (.panic c) (a.put (some d) v) w -> Q (.panic c) a w := by exact λ_ _ _ h => h) (hw : Region.wanted o (yielded ops (aQ A L).tmps) = true := by first | exact dX rfl | exact dB rfl rfl rfl Qv) (hy : ∀ w, S w -> (execOp (aQ A L).eval o).run P w = .ok (.value v) w := by first
   |exact λ_ H=>aY _ _ rfl OneK.out Qv Qh Yo rfl
   |exact λ_ H=>aX _ _ rfl ManyK.out Qv Qh Yo):SeqJ P ops Q S late (.rd i r) (aQ A L) w:=xG ho hd hQ hw hS hy h
variable{f:Nat->Value}{ty:TypeId}
theorem gJ(H:Cx w0 w l)(h:∀w',Cx w0 w' (vhI ty w.heap.size n n f::l)->w'.heap.size=w.heap.size+1->LstI P ops Q rest (aQ A ((d,.pointer (some ⟨w.heap.size,0,none⟩))::L)) w')(ho:o.op=.alloc ty:=by rfl)(Z:ZerK P ty n f:=by infer_instance)(hn:n<=maxLen:=by exact Xu rfl)(hd:o.dst=some d:=by rfl)(hw:Region.wanted o (yielded ops (aQ A L).tmps)=true:=by exact dX rfl):LstI P ops Q (o::rest) (aQ A L) w:=
 bI hd hw (λ_ hK=>kU w ty ho Z.out hn (λw' m k z=>hK _ _ (h w' (H.add k _ m (λj (e:j=_)=>Nat.le_of_eq e.symm)) z)))
variable{K:Act->World->Prop}{a:Act}
theorem aEX(w:World)(ty:TypeId)(ho:o.op=.alloc ty)(hz:∀w,(zeroValue ty).run P w=.ok v w)(h1:v.cells=#[v])(h:∀w',Vh ty w' w.heap.size 1 1 (λ_=>v)->Below w.heap.size w w'->w'.heap.size=w.heap.size+1->K (a.put o.dst (.pointer (some ⟨w.heap.size,0,none⟩))) w'):WpI P o a w K Q:=by
 refine⟨?_⟩;have hh:=h (w.alloc (.cells ((List.range 1).map λ_=>v).toArray ty)) (Vh.of_row _ 1 Yc (by show (w.heap.push _)[w.heap.size]?=_;rw[Array.getElem?_push_size])) (bU _ _) (dJ _ _);unfold Oper.wp execOp;simp only[ho,Instr.alloc,newVar,newRow,newObj,Sem.run_bind,hz,Result.andThen_ok,h1];go_simp
 exact hh
theorem aNB(H:Cx w0 w l)(h:∀w',Cx w0 w' (vhI ty w.heap.size 1 1 (λ_=>v)::l)->w'.heap.size=w.heap.size+1->LstI P ops Q rest (aQ A ((d,.pointer (some ⟨w.heap.size,0,none⟩))::L)) w')(ho:o.op=.alloc ty:=by rfl)(Z:Zer1 P ty v:=by infer_instance)(hd:o.dst=some d:=by rfl)(hw:Region.wanted o (yielded ops (aQ A L).tmps)=true:=by exact dX rfl):LstI P ops Q (o::rest) (aQ A L) w:=
 bI hd hw (λ_ hK=>aEX w ty ho Z.out Z.one (λw' m k z=>hK _ _ (h w' (H.add k _ m (λj (e:j=_)=>Nat.le_of_eq e.symm)) z)))
variable{x:Operand}
theorem iH(H:Cx w0 w l)(h:∀w',Cx w0 w' (vhI ty w.heap.size n n f::l)->w'.heap.size=w.heap.size+1->LstI P ops Q rest (aQ A ((d,.pointer (some ⟨w.heap.size,0,none⟩))::L)) w')(ho:o.op=.box ty x:=by rfl)(hx:(aQ A L).eval x=aN f 0 n:=by exact Qv)(hn:n<=maxLen:=by exact Xu rfl)(hd:o.dst=some d:=by rfl)(hw:Region.wanted o (yielded ops (aQ A L).tmps)=true:=by exact dX rfl):LstI P ops Q (o::rest) (aQ A L) w:=
 bI hd hw (λ_ hK=>uM w ty x ho hx hn (λw' m k z=>hK _ _ (h w' (H.add k _ m (λj (e:j=_)=>Nat.le_of_eq e.symm)) z)))
theorem aJG(w:World)(ty:TypeId)(x:Operand)(ho:o.op=.box ty x)(hx:a.eval x=v)(h1:v.cells=#[v])(h:∀w',Vh ty w' w.heap.size 1 1 (λ_=>v)->Below w.heap.size w w'->w'.heap.size=w.heap.size+1->K (a.put o.dst (.pointer (some ⟨w.heap.size,0,none⟩))) w'):WpI P o a w K Q:=by
 refine⟨?_⟩;have hh:=h (w.alloc (.cells ((List.range 1).map λ_=>v).toArray ty)) (Vh.of_row _ 1 Yc (by show (w.heap.push _)[w.heap.size]?=_;rw[Array.getElem?_push_size])) (bU _ _) (dJ _ _);unfold Oper.wp execOp;simp only[ho,hx,Instr.box,newVar,newRow,newObj,h1];go_simp
 exact hh
theorem aMm(H:Cx w0 w l)(h:∀w',Cx w0 w' (vhI ty w.heap.size 1 1 (λ_=>v)::l)->w'.heap.size=w.heap.size+1->LstI P ops Q rest (aQ A ((d,.pointer (some ⟨w.heap.size,0,none⟩))::L)) w')(ho:o.op=.box ty x:=by rfl)(hx:(aQ A L).eval x=v:=by exact Qv)(h1:v.cells=#[v]:=by rfl)(hd:o.dst=some d:=by rfl)(hw:Region.wanted o (yielded ops (aQ A L).tmps)=true:=by exact dX rfl):LstI P ops Q (o::rest) (aQ A L) w:=
 bI hd hw (λ_ hK=>aJG w ty x ho hx h1 (λw' m k z=>hK _ _ (h w' (H.add k _ m (λj (e:j=_)=>Nat.le_of_eq e.symm)) z)))
variable{u:Value}{y:Operand}{F:It->List It}
theorem pE{b q N cap:Nat}{g g':Nat->Value}(H:AtK w0 w (vhI t b N cap g) F)(e:∀j,j<N->stW g q u j=g' j)(h:∀w',Cx w0 w' (F (vhI t b N cap g'))->w'.heap.size=w.heap.size->LstI P ops Q rest (aQ A L) w')(ho:o.op=.store ty x y:=by rfl)(T:OneK P ty:=by infer_instance)(hx:(aQ A L).eval x=.pointer (some ⟨b,q,none⟩):=by exact Qv)(hy:(aQ A L).eval y=u:=by exact Qv)(hn:q<N:=by omega)(h1:u.oneCell'=true:=by rfl)(h2:u.cells=#[u]:=by rfl)(hd:o.dst=none:=by rfl)(hw:Region.wanted o (yielded ops (aQ A L).tmps)=true:=by exact dX rfl):LstI P ops Q (o::rest) (aQ A L) w:=
 jZ hw (λ_ hK=>iC w ty x y ho T.out hx hy H.o hn h1 h2 hd (λw' m k z=>hK _ (h w' (H.s k (m.congr e)) z)))
theorem fJ{b q N cap:Nat}{g g':Nat->Value}(H:AtK w0 w (vhI t b N cap g) F)(e:∀j,j<N->stP g q n f j=g' j)(h1:∀j,j<n->(f j).oneCell'=true)(h:∀w',Cx w0 w' (F (vhI t b N cap g'))->w'.heap.size=w.heap.size->LstI P ops Q rest (aQ A L) w')(ho:o.op=.store ty x y:=by rfl)(T:ManyK P ty n:=by infer_instance)(hx:(aQ A L).eval x=.pointer (some ⟨b,q,none⟩):=by exact Qv)(hy:(aQ A L).eval y=aN f 0 n:=by exact Qv)(hn:q+n<=N:=by omega)(hd:o.dst=none:=by rfl)(hw:Region.wanted o (yielded ops (aQ A L).tmps)=true:=by exact dX rfl):LstI P ops Q (o::rest) (aQ A L) w:=
 jZ hw (λ_ hK=>aR w ty x y ho T.out hx hy H.o hn h1 hd (λw' m k z=>hK _ (h w' (H.s k (m.congr e)) z)))
variable{T:Array TypeId}{R:Ending->World->Prop}
theorem mO[E:EntK P n](hc:Calls P n #[u] w R)(h:∀e w',R e w'->∃r,e=.returned r/\LstI P ops Q rest (aQ A ((d,r)::L)) w')(ho:o.op=.call { callee:=.value (.func n),args:=#[x],argTypes:=T }:=by rfl)(hx:(aQ A L).eval x=u:=by exact Qv)(hd:o.dst=some d:=by rfl)(hw:Region.wanted o (yielded ops (aQ A L).tmps)=true:=by exact dX rfl):LstI P ops Q (o::rest) (aQ A L) w:=
 bI hd hw (λ_ hK=>bN w n x T ho hx (E.out _ _) hc (λe w' hr=>by obtain⟨r,h1,h2⟩:=h e w' hr;exact⟨r,h1,hK _ _ h2⟩))
variable{u2:Value}
theorem yU[E:EntK P n](hc:Calls P n #[u,u2] w R)(h:∀e w',R e w'->∃r,e=.returned r/\LstI P ops Q rest (aQ A ((d,r)::L)) w')(ho:o.op=.call { callee:=.value (.func n),args:=#[x,y],argTypes:=T }:=by rfl)(hx:(aQ A L).eval x=u:=by exact Qv)(hy:(aQ A L).eval y=u2:=by exact Qv)(hd:o.dst=some d:=by rfl)(hw:Region.wanted o (yielded ops (aQ A L).tmps)=true:=by exact dX rfl):LstI P ops Q (o::rest) (aQ A L) w:=
 bI hd hw (λ_ hK=>dG w n x y T ho hx hy (E.out _ _) hc (λe w' hr=>by obtain⟨r,h1,h2⟩:=h e w' hr;exact⟨r,h1,hK _ _ h2⟩))
theorem aNs{z:Operand}[E:EntK P n]{u3:Value}(hc:Calls P n #[u,u2,u3] w R)(h:∀e w',R e w'->∃r,e=.returned r/\LstI P ops Q rest (aQ A ((d,r)::L)) w')(ho:o.op=.call { callee:=.value (.func n),args:=#[x,y,z],argTypes:=T }:=by rfl)(hx:(aQ A L).eval x=u:=by exact Qv)(hy:(aQ A L).eval y=u2:=by exact Qv)(hz:(aQ A L).eval z=u3:=by exact Qv)(hd:o.dst=some d:=by rfl)(hw:Region.wanted o (yielded ops (aQ A L).tmps)=true:=by exact dX rfl):LstI P ops Q (o::rest) (aQ A L) w:=
 bI hd hw (λ_ hK=>iD w n x y z T ho hx hy hz (E.out _ _) hc (λe w' hr=>by obtain⟨r,h1,h2⟩:=h e w' hr;exact⟨r,h1,hK _ _ h2⟩))
theorem aNY{z q:Operand}[E:EntK P n]{u3 u4:Value}(hc:Calls P n #[u,u2,u3,u4] w R)(h:∀e w',R e w'->∃r,e=.returned r/\LstI P ops Q rest (aQ A ((d,r)::L)) w')(ho:o.op=.call { callee:=.value (.func n),args:=#[x,y,z,q],argTypes:=T }:=by rfl)(hx:(aQ A L).eval x=u:=by exact Qv)(hy:(aQ A L).eval y=u2:=by exact Qv)(hz:(aQ A L).eval z=u3:=by exact Qv)(hq:(aQ A L).eval q=u4:=by exact Qv)(hd:o.dst=some d:=by rfl)(hw:Region.wanted o (yielded ops (aQ A L).tmps)=true:=by exact dX rfl):LstI P ops Q (o::rest) (aQ A L) w:=
 bI hd hw (λ_ hK=>nW w n x y z q T ho hx hy hz hq (E.out _ _) hc (λe w' hr=>by obtain⟨r,h1,h2⟩:=h e w' hr;exact⟨r,h1,hK _ _ h2⟩))
end
section
variable {P:Program} {Q:Exit->Act->World->Prop} {a:Act} {w:World} {y:Code} {J:Act->World->Prop} {id:Nat}
theorem lY(h:Q .ret a w):Nx P y Q .ret a w:=h
theorem aGe(h:Q .ret a w):Exit.then J Q .ret a w:=h
theorem MM(h:Q .ret a w):Exit.inBlock id Q .ret a w:=h
end
variable{y x:Code}{Q:Exit->Act->World->Prop}{L:List (Nat×Value)}{c:Operand}{A:Act}{t:Bool}{P:Program}
theorem fB(h1:t=true->CodI P x Q (aQ A L) w)(h2:t=false->CodI P y Q (aQ A L) w)(hc:(aQ A L).eval c=.bool t:=by exact Qv):CodI P (.cond c x y) Q (aQ A L) w:=lL hc h1 h2
theorem yI(ht:t=true)(h:CodI P x Q (aQ A L) w)(hc:(aQ A L).eval c=.bool t:=by exact Qv):CodI P (.cond c x y) Q (aQ A L) w:=lL hc (λ_=>h) (λe=>by rw[ht] at e;cases e)
theorem yV(ht:t=false)(h:CodI P y Q (aQ A L) w)(hc:(aQ A L).eval c=.bool t:=by exact Qv):CodI P (.cond c x y) Q (aQ A L) w:=lL hc (λe=>by rw[ht] at e;cases e) (λ_=>h)
end Go.Proofs.YthimcecbgpamdaaGreat
