import Derived.Test.YthimcecbgpamdaaGreatDoorNear128
set_option maxHeartbeats 1000000
namespace Go.Proofs.YthimcecbgpamdaaGreatDoor
open Go.ChangeShapes Go.WideShapes Go.ChangeAt Go.RowKit Go.Joins
set_option maxRecDepth 100000
instance:Inhabited Lj:=⟨⟨⟨0,0,0,λ_=>0⟩,none,0⟩⟩
instance:Inhabited Li:=⟨⟨λ_ _=>0,0,[],none,0⟩⟩
theorem MK:Tryz.prog.cellsOf 81=3:=Yl
theorem aCS:Tryz.prog.bytesOf 81=40:=Yl
theorem MJ:Tryz.prog.cellsOf 52=14:=Yl
theorem aCR:Tryz.prog.bytesOf 52=128:=Yl
theorem aCW:Tryz.prog.cellsOf 65=1:=Yl
theorem aCV:Tryz.prog.cellsOf 50=1:=Yl
section
variable {H:Type} {enc:TypeId×Value->H} {w:World} {base:Nat} {held:Bool}
variable{v:Value}{x:DataW H×List MemPlace}
theorem JL{t e:TypeId}{s bytes:Nat}{α:Type}[Inhabited α](F:α->Nat->Value)(R:α->Prop)(ht:Tryz.prog.underlying t=some (.slice e))(hce:Tryz.prog.cellsOf e=s)(hbe:Tryz.prog.bytesOf e=bytes)(hs:0<s)(op:∀fuel cs x,DataW.trod enc Tryz.prog w base (λ_=>true) held fuel e cs=some x->(∀n∈x.1.weights Tryz.prog e,n<=reachBytes)->∃c,cs.length=s/\(∀j,j<s->cs[j]?=some (F c j))/\R c){fuel:Nat}(h:DataW.trod enc Tryz.prog w base (λ_=>true) held fuel t [v]=some x)(hsz:∀n∈x.1.weights Tryz.prog t,n<=reachBytes):∃(mo:Option Addr) (mc:Nat) (L:List α),v=.slice mo L.length mc/\RdS F s w mo L/\(∀c,c∈L->R c)/\L.length*bytes<=reachBytes/\L.length<=mc:=by
 rcases Go.Deep.open_slice ht h with ⟨hcs,_⟩|⟨a,len,c,m,n,D,Pl,hcs,_,hl,hm,hmm,ex,hx⟩
 .simp at hcs;exact⟨none,0,[],hcs,λh=>absurd h (by simp),λ_ h=>absurd h (by simp),by show 0*_<=_;omega,Xr _⟩
 .simp at hcs;subst hcs;simp only[if_true] at hmm;subst hmm;have ex1:x.1=.slice ((List.range len).map D) ((List.range (m-len)).map λj=>D (len+j)):=congrArg Prod.fst ex;have hw:∀i,i<len->∀k∈(D i).weights Tryz.prog e,k<=reachBytes:=λi hi k hk=>hsz k (by
   rw[ex1];simp only[DataW.weights,ht];exact List.mem_cons_of_mem _ (List.mem_append.2 (Or.inl (FC (List.mem_map.2 ⟨i,List.mem_range.2 hi,rfl⟩) k hk))))
  have hb:m*bytes<=reachBytes:=hsz _ (by
   rw[ex1];simp only[DataW.weights,ht,hbe];refine List.mem_cons.2 (Or.inl ?_);rw[List.length_map,List.length_map,List.length_range,List.length_range]
   congr 1
   omega)
  obtain⟨G,hG⟩:=Go.Deep.choose_lt (α:=α) (n:=len) (p:=λi c=>(∀k,k<s->w.cell? ((a.add (i*s)).add k)=some (F c k))/\R c) (λi hi=>by
   obtain⟨cs',h1,h2⟩:=hx i Yo;rw[hce] at h1;obtain⟨cc,e,h3,h4⟩:=op _ _ _ h2 (hw i hi);refine⟨cc,λk hk=>?_,h4⟩;obtain⟨_,_,hcc⟩:=World.cells?_some h1;rw[hcc k hk,h3 k hk])
  have el:((List.range len).map G).length=len:=by simp
  have hat:∀i c,((List.range len).map G)[i]?=some c->i<len/\c=G i:=λi c hi=>by
   have hlt:i<len:=by have:=(List.getElem?_eq_some_iff.1 hi).1;rw[el] at this;exact this
   rw[List.getElem?_map,List.getElem?_range hlt] at hi;exact⟨hlt,(Option.some.inj hi).symm⟩
  refine⟨some a,m,(List.range len).map G,by rw[el],λhl0=>?_,λc hc=>?_,by rw[el];exact Nat.le_trans (Nat.mul_le_mul_right _ hl) hb,by rw[el];exact hl⟩
  .rw[el] at hl0;obtain⟨b,o,spot⟩:=a;have hn:spot=none:=by
    have h0:w.cell? (((⟨b,o,spot⟩:Addr).add (0*s)).add 0)=some (F (G 0) 0):=(hG 0 hl0).1 0 hs
    simpa [Addr.add] using World.cell?_spot h0
   subst hn;refine⟨b,o,rfl,λi c hi k hk=>?_⟩;obtain⟨hlt,rfl⟩:=hat i c hi;have:=(hG i hlt).1 k hk;rw[Addr.add_lit,Addr.add_lit] at this;exact this
  .obtain⟨i,hi⟩:=List.getElem?_of_mem hc;obtain⟨hlt,rfl⟩:=hat i c hi;exact (hG i hlt).2
theorem aEb(fuel:Nat)(cs:List Value)(x:DataW H×List MemPlace)(h:DataW.trod enc Tryz.prog w base (λ_=>true) held fuel 81 cs=some x)(hsz:∀n∈x.1.weights Tryz.prog 81,n<=reachBytes):∃c:Lj,cs.length=3/\(∀j,j<3->cs[j]?=some (JK c j))/\aCF w c:=by
 obtain⟨xs,n,_,ex,hl,hlen,hf⟩:=DataW.trod_struct Tryz.underlying81 h;rw[MK] at hl
 match cs,hl with
 |[c0,c1,c2],_=>
  match xs,hlen with
  |[y0,y1,y2],_=>
   have g0:DataW.trod enc Tryz.prog w base (λ_=>true) held n 3 (List.take (Tryz.prog.cellsOf 3) [c0,c1,c2])=some y0:=hf 0 _ rfl;have g1:DataW.trod enc Tryz.prog w base (λ_=>true) held n 3 (List.take (Tryz.prog.cellsOf 3) [c1,c2])=some y1:=hf 1 _ rfl;have g2:DataW.trod enc Tryz.prog w base (λ_=>true) held n 65 (List.take (Tryz.prog.cellsOf 65) [c2])=some y2:=hf 2 _ rfl;rw[IR] at g0 g1;rw[aCW] at g2;obtain⟨a0,q0,_,w0⟩:=DataW.trod_int Tryz.underlying3 (show DataW.trod enc Tryz.prog w base (λ_=>true) held n 3 [c0]=some y0 from g0);obtain⟨a1,q1,_,w1⟩:=DataW.trod_int Tryz.underlying3 (show DataW.trod enc Tryz.prog w base (λ_=>true) held n 3 [c1]=some y1 from g1);simp at q0 q1;subst q0 q1;have g2':DataW.trod enc Tryz.prog w base (λ_=>true) held n 65 [c2]=some y2:=g2;obtain⟨ao,len,cap,g,rfl,ha⟩:=WS g2' (λk hk=>hsz k (by
    rw[ex];simp only[DataW.weights,Tryz.underlying81,List.map,DataW.weightsEach];simp only[List.mem_append];exact Or.inr (Or.inr (Or.inl hk))))
   refine⟨⟨⟨a0,a1,len,g⟩,ao,cap⟩,rfl,λj hj=>?_,ha.1,ha.2.2.2,ha.2.1,ha.2.2.1⟩
   match j,hj with
   |0,_=>rfl
   |1,_=>rfl
   |2,_=>rfl
theorem aEa(fuel:Nat)(cs:List Value)(x:DataW H×List MemPlace)(h:DataW.trod enc Tryz.prog w base (λ_=>true) held fuel 52 cs=some x)(hsz:∀n∈x.1.weights Tryz.prog 52,n<=reachBytes):∃c:Li,cs.length=14/\(∀j,j<14->cs[j]?=some (tQ c j))/\LiOK w c:=by
 obtain⟨xs,m,_,ex,hl,hlen,hx⟩:=DataW.trod_struct Tryz.underlying52 h;have hl:cs.length=14:=hl.trans MJ;have hlen:xs.length=3:=hlen;have p0:=N7 (n:=12) Tryz.underlying52 (i:=0) rfl aDs h;have p1:=N7 (n:=1) Tryz.underlying52 (i:=1) rfl flat_int h;have h2:=hx 2 _ rfl;rw[List.getElem?_eq_getElem Yo] at h2;obtain⟨y,ey⟩:∃y,y=xs[2]:=⟨_,rfl⟩;rw[<-ey] at h2;have h2':DataW.trod enc Tryz.prog w base (λ_=>true) held m 50 ((cs.drop 13).take (Tryz.prog.cellsOf 50))=some y:=h2;rw[aCV] at h2';obtain⟨c0,ec⟩:∃c0,(cs.drop 13).take 1=[c0]:=by
  have:((cs.drop 13).take 1).length=1:=by rw[List.length_take,List.length_drop,hl];rfl
  match hq:(cs.drop 13).take 1,this with
  |[c0],_=>exact⟨c0,rfl⟩
 rw[ec] at h2';have hg:cs[13]?=some c0:=by rw[show (13:Nat)=13+0 from rfl, <-tN (n:=1) Yo,ec];rfl
 obtain⟨lo,lc,LL,rfl,hr,hR,hb,hc⟩:=JL JK (aCF w) Tryz.underlying50 MK aCS Yo aEb h2' (λn hn=>hsz n (by
  rw[ex];simp only[DataW.weights,Tryz.underlying52];exact DataW.weights_mem_each (j:=2) (t:=50) (d:=y.1) rfl (by rw[List.getElem?_map,List.getElem?_eq_getElem Yo, <-ey];rfl) n hn))
 have hk:∀j,j<13->CellK false (cs.getD j (.int .i64 0)):=λj hj=>by
  by_cases r0:j<12
  .exact ML (o:=0) (K2:=λ_=>false) p0 Yo Yo Yo rfl
  .exact ML (o:=12) (K2:=λ_=>false) p1 Yo Yo Yo rfl
 have hR64:∀j,R64 (vI (cs.getD j (.int .i64 0))):=λj=>by
  by_cases hj:j<13
  .exact (hk j hj).R
  by_cases hj2:j=13
  .rw[hj2,List.getD_eq_getElem?_getD,hg];exact R64_nought
  .rw[List.getD_eq_getElem?_getD,List.getElem?_eq_none Yo];exact R64_nought
 have hat:∀j,j<14->cs[j]?=some (cs.getD j (.int .i64 0)):=λj hj=>by rw[List.getD_eq_getElem?_getD,List.getElem?_eq_getElem Yo];rfl
 refine⟨⟨λs a=>vI (cs.getD (s*3+a) (.int .i64 0)),vI (cs.getD 12 (.int .i64 0)),LL,lo,lc⟩,hl,λj hj=>?_,⟨⟨λs a=>hR64 _,hR64 _,λy hy i=>?_⟩,⟨hr,hR⟩,hc⟩⟩
 .unfold tQ lY;dsimp only;by_cases r0:j<12
  .rw[if_pos r0,show j/3*3+j%3=j by omega,(hk j Yo).i];exact hat j hj
  by_cases r1:j=12
  .rw[if_neg r0,if_pos r1,(hk 12 Yo).i,r1];exact hat 12 Yo
  .rw[if_neg r0,if_neg r1,show j=13 by omega];exact hg
 .obtain⟨c,hcm,rfl⟩:=List.mem_map.1 hy;exact (hR c hcm).2.2.2 i
variable{p:List MemPlace}
theorem OY{r:Reach}{b0:Nat}{d:DataW H}(hv:Value.okWide Tryz.prog w r b0 28 v)(h:DataW.Trod enc Tryz.prog w base (λ_=>true) held 28 v d p)(hsz:∀n∈d.weights Tryz.prog 28,n<=reachBytes):∃(mo:Option Addr) (mc:Nat) (L:List Li),v=.slice mo L.length mc/\RdS tQ 14 w mo L/\(∀c,c∈L->LiOK w c)/\L.length*128<=reachBytes/\L.length<=mc:=by
 obtain⟨ao,len,cap,rfl⟩:=okWide_slice Tryz.underlying28 hv;obtain⟨fuel,hf⟩:=h;have hf':DataW.trod enc Tryz.prog w base (λ_=>true) held fuel 28 [.slice ao len cap]=some (d,p):=hf;exact JL tQ (LiOK w) Tryz.underlying28 MJ aCR Yo aEa hf' hsz
end
end Go.Proofs.YthimcecbgpamdaaGreatDoor
namespace Go.Proofs.YthimcecbgpamdaaGreatDoor
open Go.RowKit
instance iDrv_1:OneK Tryz.prog 9:=⟨⟨λw=>by go_simp,λw=>Yh⟩⟩
instance iDrv_2:OneK Tryz.prog 64:=⟨⟨λw=>by go_simp,λw=>Yh⟩⟩
instance iDrv_3:SlcK Tryz.prog 59 9:=⟨Tryz.underlying59⟩
instance iDrv_4:LenK Tryz.prog 59:=⟨λho hx w=>by
 unfold execOp;rw[ho];dsimp only;go_simp⟩
instance iDrv_5:FldK Tryz.prog 69 0 0:=⟨λho hx w=>Yg⟩
instance iDrv_6:FldK Tryz.prog 69 1 297:=⟨λho hx w=>Yg⟩
instance iDrv_7:FldK Tryz.prog 69 2 311:=⟨λho hx w=>Yg⟩
instance iDrv_8:FldK Tryz.prog 67 0 0:=⟨λho hx w=>Yg⟩
instance iDrv_9:FldK Tryz.prog 67 1 1:=⟨λho hx w=>Yg⟩
section
variable {f:Operand->Value} {o:Oper}
variable{s:ByteArray}
theorem xL(x:Operand)(ho:o.op=.call { callee:=.builtin .len,args:=#[x],argTypes:=#[9] })(hx:f x=.string s)(w:World):(execOp f o).run Tryz.prog w=.ok (.value (.int .i64 (s.size:Nat))) w:=by
 unfold execOp;rw[ho];dsimp only;go_simp
variable{t:ByteArray}
theorem R8(h:s.toList=t.toList):s=t:=by
 have h1:s.data.toList=t.data.toList:=by
  have e:∀a:ByteArray,a.toList=a.data.toList:=λa=>ByteArray.toList_eq a
  rw[e,e] at h;exact h
 cases s;cases t;congr 1;exact Array.ext' h1
theorem aEN(x y:Operand)(ho:o.op=.binOp .eql 9 x y 9){b:Bool}(hx:f x=.string s)(hy:f y=.string t)(hb:decide (s=t)=b)(w:World):(execOp f o).run Tryz.prog w=.ok (.value (.bool b)) w:=by
 subst hb;unfold execOp;rw[ho];dsimp only;rw[hx,hy];go_simp
 by_cases h:s=t
 .rw[h,Xt rfl];exact beq_self_eq_true _
 .rw[Xf h];refine beq_eq_false_iff_ne.2 (λe=>h ?_);exact R8 e
theorem PU(x y:Operand)(ho:o.op=.index 9 x y){l:List UInt8}{k:Nat}{z:Int}(hx:f x=.string ⟨l.toArray⟩)(hy:f y=.int .i64 z)(hz:z=(k:Int))(hk:k<l.length)(w:World):(execOp f o).run Tryz.prog w=.ok (.value (.int .u8 (l[k].toNat:Int))) w:=by
 subst hz;unfold execOp;rw[ho];dsimp only;rw[hx,hy];have:(Instr.index 9 (.string ⟨l.toArray⟩) (.int .i64 (k:Int))).run Tryz.prog w=.ok (.int .u8 (l[k].toNat:Int)) w:=by
  rw[run_index_string _ _ _ _ _ Tryz.underlying9,dif_pos ⟨Yo,by show (k:Int)<((l.toArray.size:Nat):Int);rw[List.size_toArray];omega⟩];rfl
 rw[Sem.run_bind,this];rfl
theorem aEM(x:Operand)(ho:o.op=.convert 5 3 x){u:Nat}(hx:f x=.int .u8 (u:Int))(hu:u<256)(w:World):(execOp f o).run Tryz.prog w=.ok (.value (.int .i64 (u:Int))) w:=by
 unfold execOp;rw[ho];dsimp only;rw[hx];go_simp
 rw[IntKind.wrap_i64];omega
end
end Go.Proofs.YthimcecbgpamdaaGreatDoor
namespace Go.Proofs.YthimcecbgpamdaaGreatDoor
open Go.RowKit Go.Lib
variable{b:Nat}{g:Nat->Value}{w:World}
theorem Vh.shapeD{t:TypeId}{N cap:Nat}(h:Vh t w b N cap g):w.shape? b=some (t,cap):=by
 obtain⟨cur,h1,h2,_⟩:=h;simp[World.shape?,h1,h2]
set_option maxRecDepth 100000 in
theorem KN(b:Nat)(g:Nat->Value)(w:World)(m:Vh 69 w b 313 313 g)(hp:g 311=.pointer none\/g 311=.pointer (some ⟨b,311,none⟩)):Calls Tryz.prog 84 #[.pointer (some ⟨b,311,none⟩)] w λe w'=>e=.returned (.tuple #[])/\Vh 69 w' b 313 313 (eQ g 311 (.pointer (some ⟨b,311,none⟩)))/\Kept b w w'/\w'.heap.size=w.heap.size:=by
 have hc:=m.cell (i:=311) Yo;have hfz:=m.free (i:=311);have hsh:=m.shapeD;obtain⟨j,hj,hjs⟩:∃j,Tryz.prog.info? 67=some j/\j.size=2:=⟨_,rfl,rfl⟩;have hl:liesAt Tryz.prog Tryz.prog.depth 69 (313/Tryz.prog.cellsOf 69) 311 67 1=true:=by kernel_rfl
 rcases hp with hp|hp
 .rw[hp] at hc;have hh:=m.set 311 (.pointer (some ⟨b,311,none⟩));go_enter Tryz.func84,Tryz.ntmps84
  go_wp2
  rw[Lib.run_to_unsafe w ⟨b,311,none⟩ Tryz.underlying64 Tryz.underlying198 hj (by rw[hjs];decide) hsh (by show 311<313;omega)];simp only[Result.andThen];rw[Oper.upon_value]
  go_wp2
  rw[run_callFunc_extern Tryz.func146 Yl Yl Yl (e:=Extern.AbiNoEscape.same) Yl];rw[Lib.run_noEscape];simp only[Result.andThen];rw[Oper.upon_value]
  go_wp2
  rw[Lib.run_from_unsafe w ⟨b,311,none⟩ Tryz.underlying198 Tryz.underlying64 hj hsh hl];simp only[Result.andThen];rw[Oper.upon_value]
  go_wp2
  go_end0
  exact⟨rfl,hh,bI _ _ _ _,by simp⟩
 .rw[hp] at hc;have hh:Vh 69 w b 313 313 (eQ g 311 (.pointer (some ⟨b,311,none⟩))):=m.congr (λj _=>by
   unfold eQ;split
   .rename_i e;rw[e,hp]
   .rfl)
  go_enter Tryz.func84,Tryz.ntmps84
  go_wp2
  rw[Lib.run_neq_ptr_same w _ Tryz.underlying64 hj]
  go_wp2
  go_end0
  exact⟨rfl,hh,⟨rfl,rfl,rfl,Xr _,λ_ _ _=>rfl⟩,rfl⟩
section
variable {P:Program} {t u e:TypeId} {i:TypeInfo} {w:World}
theorem aBG(ht:P.underlying t=some (.slice e))(hu:P.underlying u=some .string)(hi:P.info? e=some i)(hz:i.zero=some (.int .u8 0))(hsize:i.size=1)(hby:i.bytes=1){B:Nat}(hB:B<=w.heap.size)(ty:TypeId){v:Value}{n:Nat}{xs:List Value}(hown:w.ownsRow B e 1 v n xs)(s:ByteArray)(h63:n+s.size<=maxLen)(hb:n+s.size<=140737488355328):∃v' w',(Builtin.append_ #[t,u] ty #[v,.string s]).run P w=.ok v' w'/\w'.ownsRow B e 1 v' (n+s.size) (xs++strCells s)/\w.grownBy w' v.ownBlock/\(∀k,v'.ownBlock=some k->v.ownBlock=some k\/w.heap.size<=k)/\(v=.slice none 0 0->s.size=0->v'=.slice none 0 0):=by
 rcases hown.2 with ⟨rfl,rfl⟩|⟨g,cap,cur,rfl,hbg,hg,hnc,hcm,hcs,htake⟩
 .obtain rfl:xs=[]:=by simpa using hown.1
  obtain⟨v',w',hr,ho,hg,hn⟩:=run_append_own_string (P:=P) w w.heap.size t u ty e i ht hu hi hz hsize hby (.slice none 0 0) 0 [] (World.ownsRow_nil _ _ _ _) s h63 hb (Xr _);exact⟨v',w',hr,dJ ho hB,hg,λk hk=>Or.inr (ho.lt k hk).1,λh1 h2=>hn.2 ⟨h1,h2⟩⟩
 .obtain⟨v',w',hr,ho,hgr,_⟩:=run_append_own_string (P:=P) w B t u ty e i ht hu hi hz hsize hby (.slice (some ⟨g,0,none⟩) n cap) n xs hown s h63 hb hB;refine⟨v',w',hr,ho,hgr,λk hk=>?_,λh=>nomatch h⟩;have hxl:xs.length=n:=by simpa using hown.1
  have h9:n+s.size<=9223372036854775807:=by simp only[maxLen] at h63;omega
  by_cases hroom:n+s.size<=cap
  .have h2:=run_append_room_string (P:=P) w t u ty e i ht hu hi hsize g n cap cur hg s hroom Yo;rw[hr] at h2;injection h2 with h3 _
   subst h3;exact Or.inl hk
  .have h2:=run_append_grow_string (P:=P) w t u ty e i (.int .u8 0) ht hu hi hz ⟨g,0,none⟩ n cap xs (by rw[hsize];simpa using hxl) (hown.cells (g:=g) rfl) s Yo Yo (by rw[hby];exact growslice_fits Yo Yo);rw[hr] at h2;injection h2 with h3 _
   subst h3;exact Or.inr (Nat.le_of_eq (Option.some.inj hk))
end
instance iDrvB_1:EntK Tryz.prog 84:=⟨λargs w=>Yh⟩
instance iDrvB_2:EntK Tryz.prog 44:=⟨λargs w=>Yh⟩
instance iDrvB_3:EntK Tryz.prog 18:=⟨λargs w=>Yh⟩
def sP(B:Nat)(v:Value)(l:List UInt8):It:=⟨λw=>w.ownsRow B 5 1 v l.length (byteCells l)/\(l=[]->v=.slice none 0 0),λk=>v.ownBlock=some k,λh e=>⟨(fF B 5 1 v l.length (byteCells l)).ok h.1 e,h.2⟩,λh e=>(fF B 5 1 v l.length (byteCells l)).lt h.1 e⟩
section
variable {ops:Array Oper} {Q:Exit->Act->World->Prop} {A:Act} {L:List (Nat×Value)} {w0 w:World} {rest:List Oper} {o:Oper} {d:Nat} {v:Value} {l t:List UInt8} {y x:Operand}
theorem aMP{F:It->List It}(H:AtK w0 w (sP w0.heap.size v l) F)(hn:l.length+t.length<=140737488351232)(h:∀v' w',Cx w0 w' (F (sP w0.heap.size v' (l++t)))->LstI Tryz.prog ops Q rest (aL A ((d,v')::L)) w')(ho:o.op=.call { callee:=.builtin .append,args:=#[y,x],argTypes:=#[65,9] }:=by rfl)(hs:(aL A L).eval y=v:=by exact Qv)(hx:(aL A L).eval x=.string ⟨t.toArray⟩:=by exact Qv)(hd:o.dst=some d:=by rfl)(hw:Region.wanted o (yielded ops (aL A L).tmps)=true:=by exact cB rfl):LstI Tryz.prog ops Q (o::rest) (aL A L) w:=
 bJ hd hw (λK hK=>⟨by
  obtain⟨i,hi,hz,h1,hb⟩:=info_parts AY;have ht:(⟨t.toArray⟩:ByteArray).size=t.length:=by show t.toArray.size=_;rw[List.size_toArray]
  have ho1:w.ownsRow w0.heap.size 5 1 v l.length (byteCells l):=H.o.1;obtain⟨v',w',hrun,h2,h3,h4,h5⟩:=aBG (P:=Tryz.prog) Tryz.underlying65 Tryz.underlying9 hi hz h1 hb H.size o.type ho1 ⟨t.toArray⟩ Ym Yo;unfold Oper.wp execOp;simp only[ho,resolve,invoke,builtin,Sem.run_bind,Sem.run_pure,Result.andThen_ok,List.map_toArray,List.map_cons,List.map_nil,hs,hx,hrun];refine hK _ _ (h v' w' (H.put ⟨h3.os,h3.tape,h3.output,h3.size,λj h5 h6=>h3.block j h5 (λe=>h6 e.symm),⟨?_,λe=>?_⟩,h4⟩))
  .rw[ht] at h2;rw[List.length_append,byteCells_append];exact h2
  .obtain⟨e1,e2⟩:=List.append_eq_nil_iff.1 e;exact h5 (H.o.2 e1) (by rw[ht,e2];rfl)⟩)
end
variable{L:List It}{v:Value}{w0:World}
theorem aCA(l t:List UInt8)(H:Cx w0 w (bE 69 b 313 313 g::sP w0.heap.size v l::L))(hp:g 311=.pointer none\/g 311=.pointer (some ⟨b,311,none⟩))(hv:g 312=v)(hn:l.length+t.length<=140737488351232):Calls Tryz.prog 44 #[.pointer (some ⟨b,311,none⟩),.string ⟨t.toArray⟩] w λe w'=>∃(r v':Value),e=.returned r/\v'.oneCell'=true/\Cx w0 w' (bE 69 b 313 313 (eQ (eQ g 311 (.pointer (some ⟨b,311,none⟩))) 312 v')::sP w0.heap.size v' (l++t)::L):=by
 refine bB Tryz.func44 rfl 19 rfl Yd (λA hs hd hb=>?_);have b0:A.eval (.tmp 0)=.pointer (some ⟨b,311,none⟩):=hb 0 _ rfl;have b1:A.eval (.tmp 1)=.string ⟨t.toArray⟩:=hb 1 _ rfl;clear hb;refine aD (aG ?_);iterate 2 refine qa ?_
 refine aC<|aD<|qa ?_;refine kX (KN b g w H.v0 hp) ?_;rintro e w1 ⟨rfl,m1,k1,z1⟩;refine⟨_,rfl,?_⟩;replace H:=H.a0.s k1 m1;refine aC<|aD ?_;iterate 4 refine qa ?_
 refine qg (aR (v:=v) _ _ rfl OneK.out Qv H.v0 Yo (by unfold eQ;rw[if_neg Yo];exact hv)) ?_;refine qa ?_;refine aMP H.a1 hn ?_;clear H;intro v' w2 H;obtain⟨a',c',rfl,_⟩:=dY (show World.ownsRow _ _ _ _ _ _ _ from H.o1.1);iterate 2 refine qa ?_
 refine tY H.a0 (q:=311+1) (g':=eQ (eQ g 311 (.pointer (some ⟨b,311,none⟩))) 312 (.slice a' (l++t).length c')) (λ_ _=>rfl) ?_;clear H;intro w3 H z3;refine aC<|aD<|qa ?_;refine qg (xL _ rfl Qv _) ?_;iterate 2 refine qa ?_
 refine aC ?_;exact aN (aK YB (pF rfl Qv Qv) ⟨_,_,rfl,rfl,H⟩)
variable{P:Program}{f:Operand->Value}{o:Oper}
theorem iG{ty:TypeId}{x:Operand}(T:OneC P ty){off:Nat}(hc:w.cell? ⟨b,off,none⟩=some v)(ho:o.op=.load ty x)(hx:f x=.pointer (some ⟨b,off,none⟩)):(execOp f o).run P w=.ok (.value v) w:=by
 unfold execOp;simp only[ho,hx,Instr.loadAt,Instr.sureAddr,loadVar,Sem.run_bind,Sem.run_pure,Result.andThen_ok,T.agg];go_simp
theorem aIS(x:Operand)(ho:o.op=.call { callee:=.builtin .unsafeSliceData,args:=#[x],argTypes:=#[65] }){r:Value}(hx:f x=v)(h:(Builtin.unsafeSliceData_ #[65] o.type #[v]).run Tryz.prog w=.ok r w):(execOp f o).run Tryz.prog w=.ok (.value r) w:=by
 unfold execOp;simp only[ho,resolve,invoke,builtin,Sem.run_bind,Sem.run_pure,Result.andThen_ok,List.map_toArray,List.map_cons,List.map_nil,hx,h]
variable{K:Act->World->Prop}{Q:Exit->Act->World->Prop}{a:Act}
theorem aMj{w':World}(x y:Operand)(ho:o.op=.call { callee:=.builtin .unsafeString,args:=#[x,y],argTypes:=#[111,3] }){u r:Value}(hx:a.eval x=u)(hy:a.eval y=v)(h:(Builtin.unsafeString_ #[111,3] o.type #[u,v]).run Tryz.prog w=.ok r w')(hk:K (a.put o.dst r) w'):WpI Tryz.prog o a w K Q:=by
 refine⟨?_⟩;unfold Oper.wp execOp;simp only[ho,resolve,invoke,builtin,Sem.run_bind,Sem.run_pure,Result.andThen_ok,List.map_toArray,List.map_cons,List.map_nil,hx,hy,h];exact hk
theorem QF(l:List UInt8)(H:Cx w0 w (bE 69 b 313 313 g::sP w0.heap.size v l::L))(hv:g 312=v):Calls Tryz.prog 18 #[.pointer (some ⟨b,311,none⟩)] w λe w'=>e=.returned (.string ⟨l.toArray⟩)/\Below w0.heap.size w0 w':=by
 have hB:=H.bel;have hc:=H.v0.cell (i:=312) Yo;rw[hv] at hc;obtain⟨ho,hz⟩:w.ownsRow w0.heap.size 5 1 v l.length (byteCells l)/\(l=[]->v=.slice none 0 0):=H.o1;have hc1:w.drew.cell? ⟨b,311+1,none⟩=some v:=hc;obtain⟨ao,cap,rfl,_⟩:=dY ho;obtain⟨pt,w1,hSD,hUS,hk⟩:∃(pt:Value) (w1:World),(∀w,(Builtin.unsafeSliceData_ #[65] 111 #[.slice ao l.length cap]).run Tryz.prog w=.ok pt w)/\(Builtin.unsafeString_ #[111,3] 9 #[pt,.int .i64 (l.length:Nat)]).run Tryz.prog w.drew=.ok (.string ⟨l.toArray⟩) w1/\Below w0.heap.size w0 w1:=by
  by_cases h0:l=[]
  .have e:=hz h0;injection e with e1 e2 e3
   subst h0 e1 e3;exact⟨.pointer none,w.drew,λ_=>rfl,Lib.run_unsafeString_none (P:=Tryz.prog) w.drew 111 3 9 none,Below.drew hB⟩
  .rcases ho.2 with ⟨_,e⟩|⟨g',cap',cur,e,hbg,hg,hnc,hcm,hcs,htake⟩
   .exact absurd (List.eq_nil_of_length_eq_zero e) h0
   .have hl0:l.length≠0:=λe=>h0 (List.eq_nil_of_length_eq_zero e)
    injection e with e1 e2 e3
    subst e1 e3;refine⟨.pointer (some ⟨g',0,none⟩),w.drew.freeze ⟨g',0,none⟩ l.length,λw=>Lib.run_unsafeSliceData_row w _ _ _ _ _ Yo,?_,Lib.below_freeze (Below.drew hB) (p:=⟨g',0,none⟩) hbg _⟩;refine Lib.run_unsafeString_row w.drew 111 3 9 5 Tryz.underlying111 Yl g' cur.size (by have hg2:w.drew.heap[g']?=some (.cells cur 5 (0,0)):=hg;simp[World.shape?,hg2]) l h0 Yo (by unfold maxLen at hcm;omega) ?_;intro j x hx;exact ho.cells (g:=g') rfl j (.int .u8 x.toNat) (by simp[Lib.byteCells,hx])
 refine bB Tryz.func18 rfl 14 rfl Yd (λA hs hd hb=>?_);have b0:A.eval (.tmp 0)=.pointer (some ⟨b,311,none⟩):=hb 0 _ rfl;clear hb;refine aD (aG ?_);refine qa ?_;refine aC ?_;have hS:(λW'=>Below w.drew.heap.size w.drew W') w.drew:=Below.refl _ _;refine aH<|eU (S:=λW'=>Below w.drew.heap.size w.drew W') (.mv 0 (.mv 1 (.mv 2 (.rd 3 (.mv 4 (.mv 5 (.mv 6 (.mv 7 (.rd 8 (.mv 9 (.go 10 (.mv 11 .fin)))))))))))) [10] Yl Yl ?_;iterate 3 refine qj ?_
 refine Yr rfl hS (λ_ H=>iG OneK.out (aU hc1 H) rfl Qv) ?_;refine bS rfl rfl (λ_ _ _ h=>h) Yw (λw=>aIS _ rfl Qv (hSD w)) ?_;iterate 3 refine qj ?_
 refine Yr rfl hS (λ_ H=>iG OneK.out (aU hc1 H) rfl Qv) ?_;refine qj ?_;refine bR rfl rfl Yw (λK hK=>aMj _ _ rfl Qv Qv hUS (hK _ _ (λh=>absurd h Yc) ?_));refine qj ?_;exact fI (aN (aK YB (bL rfl Qv) ⟨rfl,hk⟩))
abbrev tV(t:List UInt8):Value:=.string ⟨t.toArray⟩
def gD(h:Nat->Value)(p v:Value)(j:Nat):Value:=if j<311 then h j else if j=311 then p else v
def I8(b:Nat)(p:Value):Prop:=p=.pointer none\/p=.pointer (some ⟨b,311,none⟩)
theorem aEj(h:Nat->Value)(p v q u:Value):∀j,j<313->eQ (eQ (gD h p v) 311 q) 312 u j=gD h q u j:=λj hj=>by
 unfold eQ gD;by_cases e:j=312
 .rw[if_pos e,if_neg Yo,if_neg Yo]
 .rw[if_neg e];by_cases e2:j=311
  .rw[if_pos e2,if_neg Yo,if_pos e2]
  .rw[if_neg e2,if_pos Yo,if_pos Yo]
def qG(ts:List (List UInt8))(j:Nat):Value:=tV (ts.getD j [])
variable{t0:List UInt8}{x0:Operand}
theorem aGa(ho:o.op=.buildSlice 59 1 #[(0,x0)])(h0:a.eval x0=tV t0)(h:∀w',Vh 9 w' w.heap.size 1 1 (qG [t0])->Below w.heap.size w w'->w'.heap.size=w.heap.size+1->K (a.put o.dst (.slice (some ⟨w.heap.size,0,none⟩) 1 1)) w'):WpI Tryz.prog o a w K Q:=by
 have hh:=h (w.alloc (.cells #[tV t0] 9)) (Vh.of_row (qG [t0]) 1 Yc (by show (w.heap.push _)[w.heap.size]?=_;rw[Array.getElem?_push_size];rfl)) (bK _ _) (dG _ _);have e:(execOp a.eval o).run Tryz.prog w=.ok (.value (.slice (some ⟨w.heap.size,0,none⟩) 1 1)) (w.alloc (.cells #[tV t0] 9)):=by
  generalize a.eval=f at h0;unfold execOp;rw[ho];simp only[List.map_toArray,List.map_cons,List.map_nil];rw[h0];go_simp
 refine⟨?_⟩;unfold Oper.wp;rw[e];exact hh
variable{t1:List UInt8}{x1:Operand}
theorem aGb(ho:o.op=.buildSlice 59 2 #[(0,x0),(1,x1)])(h0:a.eval x0=tV t0)(h1:a.eval x1=tV t1)(h:∀w',Vh 9 w' w.heap.size 2 2 (qG [t0,t1])->Below w.heap.size w w'->w'.heap.size=w.heap.size+1->K (a.put o.dst (.slice (some ⟨w.heap.size,0,none⟩) 2 2)) w'):WpI Tryz.prog o a w K Q:=by
 have hh:=h (w.alloc (.cells #[tV t0,tV t1] 9)) (Vh.of_row (qG [t0,t1]) 2 Yc (by show (w.heap.push _)[w.heap.size]?=_;rw[Array.getElem?_push_size];rfl)) (bK _ _) (dG _ _);have e:(execOp a.eval o).run Tryz.prog w=.ok (.value (.slice (some ⟨w.heap.size,0,none⟩) 2 2)) (w.alloc (.cells #[tV t0,tV t1] 9)):=by
  generalize a.eval=f at h0 h1;unfold execOp;rw[ho];simp only[List.map_toArray,List.map_cons,List.map_nil];rw[h0,h1];go_simp
 refine⟨?_⟩;unfold Oper.wp;rw[e];exact hh
theorem aGc{x2:Operand}{t2:List UInt8}(ho:o.op=.buildSlice 59 3 #[(0,x0),(1,x1),(2,x2)])(h0:a.eval x0=tV t0)(h1:a.eval x1=tV t1)(h2:a.eval x2=tV t2)(h:∀w',Vh 9 w' w.heap.size 3 3 (qG [t0,t1,t2])->Below w.heap.size w w'->w'.heap.size=w.heap.size+1->K (a.put o.dst (.slice (some ⟨w.heap.size,0,none⟩) 3 3)) w'):WpI Tryz.prog o a w K Q:=by
 have hh:=h (w.alloc (.cells #[tV t0,tV t1,tV t2] 9)) (Vh.of_row (qG [t0,t1,t2]) 3 Yc (by show (w.heap.push _)[w.heap.size]?=_;rw[Array.getElem?_push_size];rfl)) (bK _ _) (dG _ _);have e:(execOp a.eval o).run Tryz.prog w=.ok (.value (.slice (some ⟨w.heap.size,0,none⟩) 3 3)) (w.alloc (.cells #[tV t0,tV t1,tV t2] 9)):=by
  generalize a.eval=f at h0 h1 h2;unfold execOp;rw[ho];simp only[List.map_toArray,List.map_cons,List.map_nil];rw[h0,h1,h2];go_simp
 refine⟨?_⟩;unfold Oper.wp;rw[e];exact hh
theorem QT{x2 x3:Operand}{t2 t3:List UInt8}(ho:o.op=.buildSlice 59 4 #[(0,x0),(1,x1),(2,x2),(3,x3)])(h0:a.eval x0=tV t0)(h1:a.eval x1=tV t1)(h2:a.eval x2=tV t2)(h3:a.eval x3=tV t3)(h:∀w',Vh 9 w' w.heap.size 4 4 (qG [t0,t1,t2,t3])->Below w.heap.size w w'->w'.heap.size=w.heap.size+1->K (a.put o.dst (.slice (some ⟨w.heap.size,0,none⟩) 4 4)) w'):WpI Tryz.prog o a w K Q:=by
 have hh:=h (w.alloc (.cells #[tV t0,tV t1,tV t2,tV t3] 9)) (Vh.of_row (qG [t0,t1,t2,t3]) 4 Yc (by show (w.heap.push _)[w.heap.size]?=_;rw[Array.getElem?_push_size];rfl)) (bK _ _) (dG _ _);have e:(execOp a.eval o).run Tryz.prog w=.ok (.value (.slice (some ⟨w.heap.size,0,none⟩) 4 4)) (w.alloc (.cells #[tV t0,tV t1,tV t2,tV t3] 9)):=by
  generalize a.eval=f at h0 h1 h2 h3;unfold execOp;rw[ho];simp only[List.map_toArray,List.map_cons,List.map_nil];rw[h0,h1,h2,h3];go_simp
 refine⟨?_⟩;unfold Oper.wp;rw[e];exact hh
theorem FE{J:Act->World->Prop}{x:Code}{id:Nat}(h:Q .normal a w):Nx P x (Exit.then J (Exit.inBlock id Q)) (.exit id) a w:=by
 unfold Nx Exit.then Exit.inBlock;simp only[if_true];exact h
variable{fn:Func}
theorem aGr(h:fn.results=#[]):(results fn a.tmps).run P w=.ok (.tuple #[]) w:=by
 simp[results,h]
variable{R:Ending->World->Prop}
theorem UZ(hd:a.defers=[])(hr:(results fn a.tmps).run P w=.ok v w)(h:R (.returned v) w):bodyPost P fn R .normal a w:=⟨hd,v,hr,h⟩
instance iDrvT_1:EntK Tryz.prog 16:=⟨λargs w=>Yh⟩
theorem mX{bt:Nat}{h:Nat->Value}{p:Value}(l:List UInt8)(ts:List (List UInt8))(tc:Nat)(H:Cx w0 w (bE 69 b 313 313 (gD h p v)::sP w0.heap.size v l::bE 9 bt ts.length ts.length (qG ts)::L))(hp:I8 b p)(hn:l.length+ts.flatten.length<=140737488351232)(hl:ts.length<=1000):Calls Tryz.prog 16 #[.pointer (some ⟨b,0,none⟩),.slice (some ⟨bt,0,none⟩) ts.length tc] w λe w'=>∃p' v',e=.returned (.tuple #[])/\I8 b p'/\Cx w0 w' (bE 69 b 313 313 (gD h p' v')::sP w0.heap.size v' (l++ts.flatten)::L):=by
 refine bB Tryz.func16 rfl 18 rfl Yd (λA hs hd hb=>?_);have b0:A.eval (.tmp 0)=.pointer (some ⟨b,0,none⟩):=hb 0 _ rfl;have b1:A.eval (.tmp 1)=.slice (some ⟨bt,0,none⟩) ts.length tc:=hb 1 _ rfl;clear hb;refine aD (aG ?_);iterate 3 refine qa ?_
 refine aC<|aM ?_;refine cO (λr A W=>∃(k:Nat) (p' v':Value),k<=ts.length/\ts.length-k<=r/\A.tmps.size=18/\A.defers=[]/\A.eval (.tmp 0)=.pointer (some ⟨b,0,none⟩)/\A.eval (.tmp 6)=.slice (some ⟨bt,0,none⟩) ts.length tc/\A.eval (.tmp 7)=.int .i64 (ts.length:Nat)/\A.eval (.tmp 8)=.int .i64 (k:Nat)/\I8 b p'/\Cx w0 W (bE 69 b 313 313 (gD h p' v')::sP w0.heap.size v' (l++(ts.take k).flatten)::bE 9 bt ts.length ts.length (qG ts)::L)) ts.length
  ⟨0,p,v,Xz _,Yo,YA,YB,Qv,Qv,Qv,Qv,hp,by rw[List.take_zero,List.flatten_nil,List.append_nil];exact H⟩ (λr B W hI=>?_)
 clear b0 b1 hs hd H hp;obtain⟨k,p',v',hk,hkr,hs,hd,b0,b6,b7,b8,hp,H⟩:=hI;refine aD (aG ?_);refine qa ?_;refine aC<|aH<|iB (λhc=>?_) (λhc=>?_)
 .have hin:k<ts.length:=by have:=Xu hc;omega
  have e1:ts.getD k []=ts[k]:=by rw[List.getD_eq_getElem?_getD,List.getElem?_eq_getElem hin];rfl
  refine aS<|aH (aM ?_);refine aD<|qg (eB (i:=k) _ _ _ _ rfl SlcK.out SizK.out Qv Qv rfl hin _) ?_;refine qg (aR (v:=tV ts[k]) _ _ rfl OneK.out Qv H.v2 Yo (by unfold qG;rw[show 0+k*1=k by omega,e1])) ?_;refine qa ?_;refine aC<|aJ ?_;iterate 4 refine qa ?_
  have hle:(l++(ts.take k).flatten).length+ts[k].length<=140737488351232:=by
   have e2:ts.flatten=(ts.take k).flatten++(ts[k]++(ts.drop (k+1)).flatten):=by
    conv=>lhs;rw[<-List.take_append_drop k ts,List.flatten_append,List.drop_eq_getElem_cons hin,List.flatten_cons]
   rw[e2,List.length_append,List.length_append] at hn;rw[List.length_append];omega
  refine gX (aCA (l++(ts.take k).flatten) ts[k] H (by unfold gD;rw[if_neg Yo,if_pos rfl];exact hp) (by unfold gD;rw[if_neg Yo,if_neg Yo]) hle) ?_;rintro e w1 ⟨r1,v1,rfl,h1,H1⟩;refine⟨_,rfl,?_⟩;clear H;replace H1:=H1.wk (y:=bE 69 b 313 313 (gD h (.pointer (some ⟨b,311,none⟩)) v1)) (λm=>Vh.congr m (aEj _ _ _ _ _)) (λ_ h=>h);refine fG<|aJ ?_;repeat refine qa ?_
  exact bD ⟨ts.length-(k+1),Yo,k+1,_,v1,Yo,Yo,YA,YB,Qv,Qv,Qv,Eq.trans Qv YC,Or.inr rfl,by
   rw[<-List.take_append_getElem hin,List.flatten_append, <-List.append_assoc,List.flatten_cons,List.flatten_nil,List.append_nil];exact H1⟩
 .obtain rfl:k=ts.length:=by have:=Xg hc;omega
  rw[List.take_length] at H;exact bY (FE (UZ YB (aGr rfl) ⟨_,_,rfl,hp,H.f2.tl⟩))
end Go.Proofs.YthimcecbgpamdaaGreatDoor
