import Derived.Test.YthimcecbgpamdaaGreatDoorNear213
import Derived.Lib.UnsafeStr
import Derived.Lib.Builder
set_option maxHeartbeats 1000000
set_option maxRecDepth 100000
open Option renaming some->C,none->D
open _root_ renaming rfl->E,Nat->J,List->V,if_neg->W,if_pos->δ,Array->ε
open Go.Value renaming int->G,pointer->U,slice->X
open Go.IntKind renaming i64->I
open Go renaming World->O,Act->Z,execOp->β,Oper->γ,maxLen->η
open Go.Proofs.Tryz renaming prog->Y
open List renaming range->q
open Go.World renaming cell?->ζ
namespace Go.Proofs.YthimcecbgpamdaaGreatDoor
section
open Go.RowKit Go.Lib
variable{b:J}{g:J->Value}{w:O}
theorem Vh.shapeD{t}{N cap}(h:Vh t w b N cap g):w.shape? b=C (t,cap):=by obtain⟨cur,h1,h2,_⟩:=h;simp[World.shape?,h1,h2]
theorem YH(b)g(w)(m:Vh 69 w b 313 313 g)(hp:g 311=U D\/g 311=U (C ⟨b,311,D⟩)):Calls Y 84 #[U (C ⟨b,311,D⟩)] w λe w'=>e=.returned (.tuple #[])/\Vh 69 w' b 313 313 (stW g 311 (U (C ⟨b,311,D⟩)))/\Kept b w w'/\w'.heap.size=w.heap.size:=by
 have hc:=m.cell (i:=311) Yo;have hfz:=m.free;have hsh:=m.shapeD;obtain⟨j,hj,hjs⟩:∃j,uC.info? 67=C j/\j.size=2:=⟨_,rfl,rfl⟩;have hl:liesAt uC uC.depth 69 (313/uC.cellsOf 69) 311 67 1=true:=Yl;rcases hp with hp|hp
 .have hh:=m.set 311 (U (C ⟨b,311,D⟩));go_in;go_wp2;rw[Lib.run_to_unsafe w ⟨b,311,D⟩ Tryz.underlying64 Tryz.underlying198 hj (by rw[hjs];decide) hsh (by show 311<313;omega)];go_wp2;rw[run_callFunc_extern Tryz.func146 Yl Yl Yl Yl];rw[Lib.run_noEscape];go_wp2;rw[Lib.run_from_unsafe w ⟨b,311,D⟩ Tryz.underlying198 Tryz.underlying64 hj hsh hl];go_wp2;go_end0;exact⟨E,hh,bN _ _ _ _,Mt⟩
 rw[hp] at hc;have hh:Vh 69 w b 313 313 (stW g 311 (U (C ⟨b,311,D⟩))):=m.congr (λj _=>by
  unfold stW;split
  .rename_i e;rw[e,hp]
  rfl)
 go_in;go_wp2;rw[Lib.run_neq_ptr_same w _ Tryz.underlying64 hj];go_wp2;go_end0;exact⟨E,hh,⟨E,E,E,Xr _,λ_ _ _=>rfl⟩,E⟩
section
variable {P:Program} {t u e:TypeId} {i:TypeInfo} {w:O}
theorem aID(ht:P.underlying t=C (.slice e))(hu:P.underlying u=C .string)(hi:P.info? e=C i)(hz:i.zero=C (G .u8 0))(hsize:i.size=1)(hby:i.bytes=1){B}(hB:B<=w.heap.size)(ty){v}{n}{xs}(hown:w.ownsRow B e 1 v n xs)(s)(h63:n+s.size<=η)(hb:n+s.size<=140737488355328):∃v' w',(Builtin.append_ #[t,u] ty #[v,.string s]).run P w=.ok v' w'/\w'.ownsRow B e 1 v' (n+s.size) (xs++strCells s)/\w.grownBy w' v.ownBlock/\(∀k,v'.ownBlock=C k->v.ownBlock=C k\/w.heap.size<=k)/\(v=X D 0 0->s.size=0->v'=X D 0 0):=by
 rcases hown.2 with ⟨rfl,rfl⟩|⟨g,cap,cur,rfl,hbg,hg,hnc,hcm,hcs,htake⟩
 .obtain rfl:xs=[]:=by simpa using hown.1
  obtain⟨v',w',hr,ho,hg,hn⟩:=run_append_own_string w w.heap.size t u ty e i ht hu hi hz hsize hby (X D 0 0) 0 [] (Am _ _ _ _) s h63 hb (Xr _);exact⟨v',w',hr,cO ho hB,hg,λk hk=>Ab (ho.lt k hk).1,λh1 h2=>hn.2 ⟨h1,h2⟩⟩
 obtain⟨v',w',hr,ho,hgr,_⟩:=run_append_own_string w B t u ty e i ht hu hi hz hsize hby (AZ g n cap) n xs hown s h63 hb hB;refine⟨v',w',hr,ho,hgr,λk hk=>?_,λh=>nomatch h⟩;have hxl:xs.length=n:=by simpa using hown.1
 have h9:n+s.size<=9223372036854775807:=by simp only[η] at h63;omega
 by_cases hroom:n+s.size<=cap
 .have h2:=run_append_room_string w t u ty e i ht hu hi hsize g n cap cur hg s hroom Yo;rw[hr] at h2;injection h2 with h3 _;subst h3;exact Aa hk
 have h2:=run_append_grow_string w t u ty e i (G .u8 0) ht hu hi hz ⟨g,0,D⟩ n cap xs (by rw[hsize];simpa using hxl) (hown.cells rfl) s Yo Yo (by rw[hby];exact growslice_fits Yo Yo);rw[hr] at h2;injection h2 with h3 _;subst h3;exact Ab (Bq (Dp hk))
end
def yF(B:J)(v:Value)(l:V UInt8):It:=⟨λw=>w.ownsRow B 5 1 v l.length (byteCells l)/\(l=[]->v=X D 0 0),λk=>v.ownBlock=C k,λh e=>⟨(fU B 5 1 v l.length (byteCells l)).ok h.1 e,h.2⟩,λh e=>(fU B 5 1 v l.length (byteCells l)).lt h.1 e⟩
section
variable {ops:ε γ} {Q:Exit->Z->O->Prop} {A:Z} {L:V (Nat×Value)} {w0 w:O} {rest:V γ} {o:γ} {d:J} {v:Value} {l t:V UInt8} {y x:Operand}
theorem aTk{F:It->V It}(H:AtK w0 w (yF w0.heap.size v l) F)(hn:l.length+t.length<=140737488351232)(h:∀v' w',Cx w0 w' (F (yF w0.heap.size v' (l++t)))->LstI Y ops Q rest (aV A ((d,v')::L)) w')(ho:o.op=.call { callee:=.builtin .append,args:=#[y,x],argTypes:=#[65,9] }:=by rfl)(hs:(aV A L).eval y=v:=by exact Qv)(hx:(aV A L).eval x=.string ⟨t.toArray⟩:=by exact Qv)(hd:o.dst=C d:=by rfl)(hw:Region.wanted o (yielded ops (aV A L).tmps)=true:=by exact fE rfl):LstI Y ops Q (o::rest) (aV A L) w:=
 bI hd hw (λK hK=>⟨by
  obtain⟨i,hi,hz,h1,hb⟩:=Ef NN;have ht:(⟨t.toArray⟩:ByteArray).size=t.length:=by show t.toArray.size=_;rw[Co]
  obtain⟨v',w',hrun,h2,h3,h4,h5⟩:=aID Cz Ev hi hz h1 hb H.size o.type H.o.1 ⟨t.toArray⟩ Ym Yo;unfold Oper.wp β;simp only[ho,resolve,invoke,builtin,Aq,Bo,Bb,Ay,Aw,Az,hs,hx,hrun];refine hK _ _ (h v' w' (H.put ⟨h3.os,h3.tape,h3.output,h3.size,λj h5 h6=>h3.block j h5 (λe=>h6 e.symm),⟨?_,λe=>?_⟩,h4⟩))
  .rw[Ag,byteCells_append];exact h2
  obtain⟨e1,e2⟩:=List.append_eq_nil_iff.1 e;exact h5 (H.o.2 e1) (by rw[ht,e2];rfl)⟩)
end
variable{L:V It}{v:Value}
theorem aJr{w0}(l t)(H:Cx w0 w (vhI 69 b 313 313 g::yF w0.heap.size v l::L))(hp:g 311=U D\/g 311=U (C ⟨b,311,D⟩))(hv:g 312=v)(hn:l.length+t.length<=140737488351232):Calls Y 44 #[U (C ⟨b,311,D⟩),.string ⟨t.toArray⟩] w λe w'=>∃(r v':Value),e=.returned r/\v'.oneCell'=true/\Cx w0 w' (vhI 69 b 313 313 (stW (stW g 311 (U (C ⟨b,311,D⟩))) 312 v')::yF w0.heap.size v' (l++t)::L):=by
 refine bC Tryz.func44 E 19 E Yd (λA hs hd hb=>?_);have b0:A.iQ 0=U (C ⟨b,311,D⟩):=hb 0 _ E;have b1:A.iQ 1=.string ⟨t.toArray⟩:=hb 1 _ E;refine aD (aG ?_);iterate 2 refine qa ?_
 refine aC<|aD<|qa ?_;refine q_c (YH b g w H.v0 hp) ?_;rintro e w1 ⟨rfl,m1,k1,z1⟩;refine⟨_,E,?_⟩;replace H:=H.a0.s k1 m1;refine aC<|aD ?_;iterate 4 refine qa ?_
 refine qg (aT (v:=v) _ _ E OneK.out Qv H.v0 Yo (by unfold stW;rw[W Yo];exact hv)) ?_;refine qa ?_;refine aTk H.a1 hn ?_;intro v' w2 H;obtain⟨a',c',rfl,_⟩:=dU H.o1.1;refine Qz ?_;refine kX H.a0 (g':=stW (stW g 311 (U (C ⟨b,311,D⟩))) 312 (X a' (l++t).length c')) (λ_ _=>rfl) ?_;intro w3 H z3;refine aC<|aD<|qa ?_;refine qg (yR _ E Qv _) ?_;iterate 2 refine qa ?_
 exact aC<|aQ (aN YB (iP rfl Qv Qv) ⟨_,_,rfl,rfl,H⟩)
variable{f:Operand->Value}{o:γ}
theorem gP{P}{ty}{x}(T:OneC P ty){off}(hc:w.cell? ⟨b,off,D⟩=C v)(ho:o.op=.load ty x)(hx:f x=U (C ⟨b,off,D⟩)):(β f o).run P w=.ok (.value v) w:=by unfold β;simp only[ho,hx,Instr.loadAt,Instr.sureAddr,loadVar,Aq,Bo,Bb,T.agg];go_simp
theorem aPC(x)(ho:o.op=.call { callee:=.builtin .unsafeSliceData,args:=#[x],argTypes:=#[65] }){r}(hx:f x=v)(h:(Builtin.unsafeSliceData_ #[65] o.type #[v]).run Y w=.ok r w):(β f o).run Y w=.ok (.value r) w:=by unfold β;simp only[ho,resolve,invoke,builtin,Aq,Bo,Bb,Ay,Aw,Az,hx,h]
variable{Q:Exit->Z->O->Prop}
theorem aSQ{a}{K:Z->O->Prop}{w'}(x y)(ho:o.op=.call { callee:=.builtin .unsafeString,args:=#[x,y],argTypes:=#[111,3] }){u r}(hx:a.eval x=u)(hy:a.eval y=v)(h:(Builtin.unsafeString_ #[111,3] o.type #[u,v]).run Y w=.ok r w')(hk:K (a.put o.dst r) w'):WpI Y o a w K Q:=by refine⟨?_⟩;unfold Oper.wp β;simp only[ho,resolve,invoke,builtin,Aq,Bo,Bb,Ay,Aw,Az,hx,hy,h];exact hk
theorem aCe{w0}(l)(H:Cx w0 w (vhI 69 b 313 313 g::yF w0.heap.size v l::L))(hv:g 312=v):Calls Y 18 #[U (C ⟨b,311,D⟩)] w λe w'=>e=.returned (.string ⟨l.toArray⟩)/\Below w0.heap.size w0 w':=by
 have hB:=H.bel;have hc:=H.v0.cell (i:=312) Yo;rw[hv] at hc;obtain⟨ho,hz⟩:w.ownsRow w0.heap.size 5 1 v l.length (byteCells l)/\(l=[]->v=X D 0 0):=H.o1;have hc1:w.drew.cell? ⟨b,311+1,D⟩=C v:=hc;obtain⟨ao,cap,rfl,_⟩:=dU ho;obtain⟨pt,w1,hSD,hUS,hk⟩:∃(pt:Value) (w1:O),(∀w,(Builtin.unsafeSliceData_ #[65] 111 #[X ao l.length cap]).run uC w=.ok pt w)/\(Builtin.unsafeString_ #[111,3] 9 #[pt,iY (l.length:J)]).run uC w.drew=.ok (.string ⟨l.toArray⟩) w1/\nS w0 w1:=by
  by_cases h0:l=[]
  .have e:=hz h0;injection e with e1 e2 e3;subst h0 e1 e3;exact⟨U D,w.drew,λ_=>rfl,Lib.run_unsafeString_none w.drew 111 3 9 D,Below.drew hB⟩
  rcases ho.2 with ⟨_,e⟩|⟨g',cap',cur,e,hbg,hg,hnc,hcm,hcs,htake⟩
  .exact absurd (Ja e) h0
  have hl0:l.length≠0:=λe=>h0 (Ja e);injection e with e1 e2 e3;subst e1 e3;refine⟨iG g',w.drew.freeze ⟨g',0,D⟩ l.length,λw=>Lib.run_unsafeSliceData_row w _ _ _ _ _ Yo,?_,Lib.below_freeze (Below.drew hB) hbg _⟩;refine Lib.run_unsafeString_row w.drew 111 3 9 5 Tryz.underlying111 Yl g' cur.size (by have hg2:w.drew.heap[g']?=C (.cells cur 5 (0,0)):=hg;simp[World.shape?,hg2]) l h0 Yo (by unfold η at hcm;omega) ?_;intro j x hx;exact ho.cells E j (G .u8 x.toNat) (by simp[Lib.byteCells,hx])
 refine bC Tryz.func18 E 14 E Yd (λA hs hd hb=>?_);have b0:=hb 0 _ E;refine aD (aG ?_);refine qa<|aC ?_;have hS:(λW'=>Below w.drew.heap.size w.drew W') w.drew:=Af _ _;refine aH<|fI (S:=λW'=>Below w.drew.heap.size w.drew W') (.mv 0 (.mv 1 (.mv 2 (.rd 3 (.mv 4 (.mv 5 (.mv 6 (.mv 7 (.rd 8 (.mv 9 (.go 10 (.mv 11 .fin)))))))))))) [10] Yl Yl ?_;iterate 3 refine qj ?_
 refine Yr E hS (λ_ H=>gP OneK.out (aP hc1 H) E Qv) ?_;refine dC E E (λ_ _ _ h=>h) Yw (λw=>aPC _ E Qv (hSD w)) ?_;iterate 3 refine qj ?_
 refine Yr E hS (λ_ H=>gP OneK.out (aP hc1 H) E Qv) ?_;refine qj ?_;refine dA E E Yw (λK hK=>aSQ _ _ E Qv Qv hUS (hK _ _ (λh=>absurd h Yc) ?_));refine qj ?_;exact gM (aQ (aN YB (bS E Qv) ⟨E,hk⟩))
end
section
open Go.RowKit
theorem NH(o:J):∀(l:V Value) (k:J) (ds:ε Value),o+k+l.length<=ds.size->((l.zipIdx k).foldl (λa p=>a.setIfInBounds (o+p.2) p.1) ds).size=ds.size/\∀i,((l.zipIdx k).foldl (λa p=>a.setIfInBounds (o+p.2) p.1) ds)[i]?=if o+k<=i/\i<o+k+l.length then l[i-(o+k)]? else ds[i]?
 |[],k,ds,_=>⟨rfl,λi=>by rw[W (by simp only[Au];omega)];rfl⟩
 |v::l,k,ds,h=>by
  rw[Ai] at h;obtain⟨h1,h2⟩:=NH o l (k+1) (ds.setIfInBounds (o+k) v) (by rw[Array.size_setIfInBounds];omega);rw[Array.size_setIfInBounds] at h1;refine⟨h1,λi=>?_⟩;show ((l.zipIdx (k+1)).foldl (λa p=>a.setIfInBounds (o+p.2) p.1) (ds.setIfInBounds (o+k) v))[i]?=_;rw[h2 i,Ai];by_cases c:o+(k+1)<=i/\i<o+(k+1)+l.length
  .rw[δ c,δ Yo,show i-(o+k)=(i-(o+(k+1)))+1 by omega,List.getElem?_cons_succ]
  rw[W c];by_cases d:i=o+k
  .subst d;rw[δ Yo,Gh,Array.getElem?_setIfInBounds,δ E,δ Yo];rfl
  rw[W Yo,Array.getElem?_setIfInBounds,W (λe=>d e.symm)]
section
variable {P:Program} {Q:Exit->Z->O->Prop} {o:γ} {a:Z} {K:Z->O->Prop} {w:O}
theorem LH{s e}{x}{n}{f z:J->Value}(hu:P.underlying s=C (.slice e))(T:Many P e n)(hz:∀w,(zeroValue e).run P w=.ok (aX z 0 n) w)(hn:n<=16777216)(hp:0<n)(ho:o.op=.buildSlice s 1 #[(0,x)])(hx:a.eval x=aX f 0 n)(h:∀w',Vh e w' w.heap.size n n f->Below w.heap.size w w'->w'.heap.size=w.heap.size+1->K (a.put o.dst (X (C ⟨w.heap.size,0,D⟩) 1 1)) w'):WpI P o a w K Q:=by
 refine⟨?_⟩;have hc:(aX f 0 n).cells=((q n).map f).toArray:=by show ((q n).map λj=>f (0+j)).toArray=_;grind
 have hf:∀ds:ε Value,ds.size=n->Instr.fill (λi=>C (i*n,n)) ds [(0,aX f 0 n)]=C ((q n).map f).toArray:=λds hds=>by unfold Instr.fill;simp only[hc,Co,Ao,Ck,Gn,Ah,hds,ne_eq,not_true_eq_false,decide_false,Bool.false_or,Cv];rw[W Yo];unfold Instr.fill;congr 1;obtain⟨h1,h2⟩:=NH 0 ((q n).map f) 0 ds (by rw[Ao,Ck];omega);grind
 unfold Oper.wp β;simp only[ho,Ay,Aw,Az,hx,Instr.buildSlice,Aq,Fq hu,Bb,T.size,Nat.one_mul,gt_iff_lt];rw[W Yo,W Yo];simp only[Aq,hz,Bb,Bo];rw[hf _ Mt];exact (h (w.alloc (.cells ((q n).map f).toArray e)) (Cf f n Ym Nj) (bU _ _) (fA _ _))
end
def qP{α:Type}(F:α->J->Value)(s:J)(L:V α):V Value:=L.flatMap λx=>(q s).map (F x)
section
variable {α:Type} {F:α->J->Value} {s:J}
theorem KY(L M):qP F s (L++M)=qP F s L++qP F s M:=List.flatMap_append
theorem VQ(L):(qP F s L).length=L.length*s:=by
 induction L with
 |nil=>show 0=0*s;omega
 |cons x L ih=>show ((q s).map (F x)++qP F s L).length=(L.length+1)*s;grind
variable{L:V α}
theorem KZ(h:∀x,x∈L->∀k,k<s->(F x k).oneCell'=true):∀u,u∈qP F s L->u.oneCell'=true:=λu hu=>by obtain⟨x,hx,hu⟩:=List.mem_flatMap.1 hu;grind
theorem aBT:∀(L:V α) (i:J) (x:α),L[i]?=C x->∀k,k<s->(qP F s L)[i*s+k]?=C (F x k)
 |[],i,x,h,_,_=>by simp at h
 |y::L,0,x,h,k,hk=>by
  obtain rfl:y=x:=by simpa using h
  show ((q s).map (F y)++qP F s L)[0*s+k]?=_;rw[Gn,Ah,Fs (by rw[Ao,Ck];exact hk),Bu,Cr hk];rfl
 |y::L,i+1,x,h,k,hk=>by
  show ((q s).map (F y)++qP F s L)[(i+1)*s+k]?=_;have e:(i+1)*s+k-s=i*s+k:=by rw[Nat.succ_mul];omega
  rw[Hr (by rw[Ao,Ck,Nat.succ_mul];omega),Ao,Ck,e];exact aBT L i x (by simpa using h) k hk
variable{e:TypeId}{w:O}
theorem EL{b B}{x}(h:Vh e w b s s (F x))(hb:B<=b):w.ownsRow B e s (X (C ⟨b,0,D⟩) 1 1) 1 (qP F s [x]):=by
 obtain⟨cur,h1,h2,h3,h4,h5⟩:=h;refine⟨by rw[VQ];rfl,Ab ⟨b,1,cur,rfl,hb,h1,Xr _,Yc,Yo,?_⟩⟩;apply Gg;intro i;rw[Ie];by_cases hi:i<1*s
 .have:=aBT (F:=F) [x] 0 x E i Yo;grind
 rw[W hi,Dh (by rw[VQ];exact Nat.le_of_not_lt hi)]
theorem aSt{B n}{v}(h:w.ownsRow B e s v n (qP F s L))(hp:0<L.length)(hs:0<s):∃g cap,v=X (C ⟨g,0,D⟩) n cap/\B<=g/\∀i x,L[i]?=C x->∀k,k<s->w.cell? ⟨g,0+i*s+k,D⟩=C (F x k):=by
 have hl:=h.1;rw[VQ] at hl;rcases h.2 with ⟨rfl,rfl⟩|⟨g,cap,cur,rfl,hb,hg,hc,hm,hsz,hcur⟩
 .have:=Nat.mul_pos hp hs;omega
 refine⟨g,cap,E,hb,λi x hi k hk=>?_⟩;have:=h.cells E (i*s+k) (F x k) (aBT L i x hi k hk);rw[kC, <-Ew] at this;exact this
end
variable{Q:Exit->Z->O->Prop}
theorem qM{P}{o}{a}{K:Z->O->Prop}{w}{s e}{x}{v z}(hu:P.underlying s=C (.slice e))(T:OneC P e)(hz:∀w,(zeroValue e).run P w=.ok z w)(h1:z.cells=#[z])(h2:v.cells=#[v])(ho:o.op=.buildSlice s 1 #[(0,x)])(hx:a.eval x=v)(h:∀w',Vh e w' w.heap.size 1 1 (λ_=>v)->Below w.heap.size w w'->w'.heap.size=w.heap.size+1->K (a.put o.dst (X (C ⟨w.heap.size,0,D⟩) 1 1)) w'):WpI P o a w K Q:=by
 refine⟨?_⟩;unfold Oper.wp β;simp only[ho,Ay,Aw,Az,hx,Instr.buildSlice,Aq,Fq hu,Bb,T.size,Nat.one_mul,gt_iff_lt];rw[W Yc,W Yc];simp only[Aq,hz,Bb,Bo,h1];have hf:∀ds:ε Value,ds.size=1->Instr.fill (λi=>C (i*1,1)) ds [(0,v)]=C #[v]:=λds hds=>by
  match ds,hds with
  |⟨[d]⟩,_=>simp[Instr.fill,h2]
 rw[hf _ Mt];exact (h (w.alloc (.cells #[v] e)) (Cf (λ_=>v) 1 Yc Mr) (bU _ _) (fA _ _))
theorem aZ{g f:J->Value}{n}:∀j,j<n->stP g 0 n f j=f j:=λj hj=>by have:=qI g (o:=0) f hj;grind
def iB(K F R:Int)(v:Value):Value:=.agg #[G I K,G I F,G I R,v]
def MgAt(w:O)(b:J)(K F R:Int)(v:Value):Prop:=w.heap[b]?=C (.cells #[G I K,G I F,G I R,v] 79 (0,0))
section
variable {w w':O} {b:J} {K F R:Int} {v:Value}
theorem MgAt.cell0(h:MgAt w b K F R v):w.cell? ⟨b,0,D⟩=C (G I K):=by unfold MgAt at h;unfold ζ;rw[h];rfl
theorem MgAt.cell1(h:MgAt w b K F R v):w.cell? ⟨b,1,D⟩=C (G I F):=by unfold MgAt at h;unfold ζ;rw[h];rfl
theorem MgAt.cell2(h:MgAt w b K F R v):w.cell? ⟨b,2,D⟩=C (G I R):=by unfold MgAt at h;unfold ζ;rw[h];rfl
theorem MgAt.cell3(h:MgAt w b K F R v):w.cell? ⟨b,3,D⟩=C v:=by unfold MgAt at h;unfold ζ;rw[h];rfl
theorem MgAt.free(h:MgAt w b K F R v)(i):w.frozen? ⟨b,i,D⟩=false:=by unfold MgAt at h;simp[World.frozen?,h]
theorem MgAt.cs(h:MgAt w b K F R v):type_of%h.cell0/\type_of%h.cell1/\type_of%h.cell2/\type_of%h.cell3:=⟨h.cell0,h.cell1,h.cell2,h.cell3⟩
theorem MgAt.fs(h:MgAt w b K F R v):type_of%(h.free 0)/\type_of%(h.free 1)/\type_of%(h.free 2)/\type_of%(h.free 3):=⟨h.free 0,h.free 1,h.free 2,h.free 3⟩
theorem MgAt.lt(h:MgAt w b K F R v):b<w.heap.size:=Cq h
theorem MgAt.same(h:MgAt w b K F R v)(e:w'.heap[b]?=w.heap[b]?):MgAt w' b K F R v:=e.trans h
theorem MgAt.below(h:MgAt w b K F R v)(k:Below w.heap.size w w'):MgAt w' b K F R v:=h.same (k.block b h.lt)
theorem MgAt.under{B}(h:MgAt w b K F R v)(k:Below B w w')(hb:b<B):MgAt w' b K F R v:=h.same (k.block b hb)
theorem MgAt.kept{z}(h:MgAt w b K F R v)(k:Kept z w w')(hz:b≠z):MgAt w' b K F R v:=h.same (k.block b h.lt hz)
theorem MgAt.new(w:O)(K F R)(v):MgAt (w.alloc (.cells #[G I K,G I F,G I R,v] 79)) w.heap.size K F R v:=by show (w.heap.push _)[w.heap.size]?=_;rw[Bt]
theorem MgAt.put(h:MgAt w b K F R v)(K' F' R')(u):∃w',w'=(((w.setCell ⟨b,0,D⟩ (G I K')).setCell ⟨b,1,D⟩ (G I F')).setCell ⟨b,2,D⟩ (G I R')).setCell ⟨b,3,D⟩ u/\MgAt w' b K' F' R' u/\Kept b w w':=by refine⟨_,rfl,?_,(((bN w b 0 _).trans (bN _ b 1 _) (Aa rfl)).trans (bN _ b 2 _) (Aa rfl)).trans (bN _ b 3 _) (Aa rfl)⟩;exact Bz _ b 3 _ _ u (Bz _ b 2 _ _ (iY R') (Bz _ b 1 _ _ (iY F') (Bz w b 0 _ _ (iY K') h)))
theorem MgAt.put2(h:MgAt w b K F R v)(R'):∃w',w'=w.setCell ⟨b,2,D⟩ (G I R')/\MgAt w' b K F R' v/\Kept b w w':=by refine⟨_,rfl,?_,bN w b 2 _⟩;exact Bz w b 2 _ _ (iY R') h
theorem MgAt.put3(h:MgAt w b K F R v)(u):∃w',w'=w.setCell ⟨b,3,D⟩ u/\MgAt w' b K F R u/\Kept b w w':=by refine⟨_,rfl,?_,bN w b 3 _⟩;exact Bz w b 3 _ _ u h
end
theorem rC(w)(K F R)(v):∃w1,w1=w.alloc (.cells #[G I K,G I F,G I R,v] 79)/\MgAt w1 w.heap.size K F R v/\Below w.heap.size w w1/\w1.heap.size=w.heap.size+1:=
 ⟨_,rfl,MgAt.new w K F R v,bU w _,fA w _⟩
end
end Go.Proofs.YthimcecbgpamdaaGreatDoor
