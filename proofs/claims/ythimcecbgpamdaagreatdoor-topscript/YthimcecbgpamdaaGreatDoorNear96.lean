import Derived.Test.YthimcecbgpamdaaGreatDoorNear193
import Derived.Test.YthimcecbgpamdaaGreatDoorShelf
import Derived.Sort.OwnSortedInts
set_option maxHeartbeats 2000000
namespace Go.Proofs.YthimcecbgpamdaaGreatDoor
open Go.RowKit Go.Shelf Go.Sort
attribute [local go_sem] Oper.semAt_some
def LW(g:Nat)(lb:Array Value)(xs:List Int)(w:World):Prop:=
 SeqStopsK Fence.wide 2 Tryz.prog g lb (λx:Int=>#[.int .i64 x]) (Below w.heap.size) (λys=>ys=xs) (λ_=>True) xs.length w
def ApI(w:World)(pre:List Int)(W:World):Prop:=
 ∃(ao:Option Addr) (c:Nat),Vh 72 W w.heap.size 1 1 (λ_=>.slice ao pre.length c)/\W.ownsRow (w.heap.size+1) 3 1 (.slice ao pre.length c) pre.length (pre.map (Value.int .i64))/\Below w.heap.size w W/\w.heap.size+1<=W.heap.size
variable{w:World}
theorem aGN{B:Nat}(hB:B=w.heap.size+1):OwnFrom B (ApI w):=by
 subst hB;rintro pre X Y row ⟨ao,c,h1,h2,h4,h5⟩ hg hrow;have hlow:∀j,j<w.heap.size+1->some j≠row:=λj hj e=>by have:=(hrow j e.symm).1;omega
 refine⟨ao,c,h1.same (hg.block _ h1.lt (hlow _ Yo)),h2.kept hg ?_,h4.trans ⟨hg.os,hg.tape,hg.output,hg.size,λj hj=>hg.block j Yo (hlow j Yo)⟩,Nat.le_trans h5 hg.size⟩;rcases h2.2 with ⟨e,_⟩|⟨b,cap,cur,e,_,hgb,_⟩
 .exact .inl (by rw[e];rfl)
 .rw[e];refine .inr λe'=>?_
  obtain⟨_,o,ho,hc⟩:=hrow b (by simpa [Value.ownBlock] using e'.symm);rw[hgb] at ho;cases ho;cases hc
variable{ao:Option Addr}
theorem aCN{W w3:World}{pre:List Int}{x:Int}{ac g' cap':Nat}(B0:Nat)(h1:Vh 72 W w.heap.size 1 1 (λ_=>.slice ao pre.length ac))(h2:W.ownsRow (w.heap.size+1) 3 1 (.slice ao pre.length ac) pre.length (pre.map (Value.int .i64)))(h4:Below w.heap.size w W)(h5:w.heap.size+1<=W.heap.size)(ho:w3.ownsRow (w.heap.size+1) 3 1 (.slice (some ⟨g',0,none⟩) (pre.length+1) cap') (pre.length+1) (pre.map (Value.int .i64)++[.int .i64 x]))(hg:(W.alloc (.cells #[.int .i64 x] 3)).grownBy w3 (Value.slice ao pre.length ac).ownBlock):Vh 72 w3 w.heap.size 1 1 (λ_=>.slice ao pre.length ac)/\KeepsFrom B0 W (w3.setCell ⟨w.heap.size,0,none⟩ (.slice (some ⟨g',0,none⟩) (pre.length+1) cap'))/\Below w.heap.size W (w3.setCell ⟨w.heap.size,0,none⟩ (.slice (some ⟨g',0,none⟩) (pre.length+1) cap'))/\ApI w (pre++[x]) (w3.setCell ⟨w.heap.size,0,none⟩ (.slice (some ⟨g',0,none⟩) (pre.length+1) cap')):=by
 have sz:(W.alloc (.cells #[.int .i64 x] 3)).heap.size=W.heap.size+1:=dG _ _;have hlow:∀j,j<w.heap.size+1->some j≠(Value.slice ao pre.length ac).ownBlock:=by
  intro j hj e;rcases h2.2 with ⟨e2,_⟩|⟨b,cap,cur,e2,hb,_⟩
  .rw[e2] at e;simp[Value.ownBlock] at e
  .rw[e2] at e;simp[Value.ownBlock] at e;omega
 have hblk:∀j,j<w.heap.size+1->w3.heap[j]?=W.heap[j]?:=λj hj=>(hg.block j (by rw[sz];omega) (hlow j hj)).trans ((bK W (.cells #[.int .i64 x] 3)).block j (show j<W.heap.size by omega))
 have s3:=hg.size;rw[sz] at s3;have m3:=h1.same (hblk _ Yo);have m4:=m3.set 0 (.slice (some ⟨g',0,none⟩) (pre.length+1) cap');have k4:=bI w3 w.heap.size 0 (.slice (some ⟨g',0,none⟩) (pre.length+1) cap');obtain⟨w4,e4⟩:∃w4,w4=w3.setCell ⟨w.heap.size,0,none⟩ (.slice (some ⟨g',0,none⟩) (pre.length+1) cap'):=⟨_,rfl⟩;rw[<-e4] at m4 k4;have hbl:Below w.heap.size W w4:=⟨by rw[k4.os];exact hg.os,by rw[k4.tape];exact hg.tape,by rw[k4.output];exact hg.output,by have:=k4.size;omega,λj hj=>(k4.block j Yo Yo).trans (hblk j Yo)⟩;refine⟨m3,?_,?_,?_⟩
 .refine ((KeepsOthers.alloc W (.cells #[.int .i64 x] 3)).trans ((KeepsOthers.of_grownBy hg λj o ej hj=>?_).trans (KeepsOthers.setCell _ _ _))).from _
  rcases (h2.alloc (.cells #[.int .i64 x] 3)).2 with ⟨e2,_⟩|⟨b,cap,cur,e2,_,hgb,_⟩
  .rw[e2] at ej;simp[Value.ownBlock] at ej
  .rw[e2] at ej;obtain rfl:b=j:=by simpa [Value.ownBlock] using ej
   rw[hgb] at hj;cases hj;rfl
 .rw[<-e4];exact hbl
 .rw[<-e4];refine⟨some ⟨g',0,none⟩,cap',?_,?_,h4.trans hbl,?_⟩
  .refine m4.congr (λi hi=>?_);have:i=0:=Yo;subst this;rw[kS];simp
  .have:=xJ ho k4 Yo
   simpa using this
  .have:=k4.size;omega
theorem ZE(w:World)(v:Value):Vh 72 (w.alloc (.cells #[v] 72)) w.heap.size 1 1 (λ_=>v):=by
 refine Vh.new w 72 #[v] (λ_=>v) (by show 1<=maxLen;decide) (λi hi=>?_);have:i=0:=by simp at hi;omega
 subst this;rfl
set_option maxRecDepth 100000 in
theorem KM(g:Nat)(lb:Array Value)(xs:List Int)(w:World)(hx:xs.length<=64)(eg:∀args w,(callFunc g args).run Tryz.prog w=.ok (.enter g args) w)(hseq:LW g lb xs w):Calls Tryz.prog 290 #[.slice none 0 0,.func (.func g) #[] lb] w λe w'=>∃v,e=.returned v/\w'.ownsRow w.heap.size 3 1 v xs.length (xs.map (Value.int .i64))/\Below w.heap.size w w':=by
 obtain⟨i0,hi,hz0,hz1,hz2⟩:=info_parts GD;have h1:=ZE w (.slice none 0 0);have k1:=bK w (.cells #[.slice none 0 0] 72);have s1:=dG w (.cells #[.slice none 0 0] 72);obtain⟨w1,e1⟩:∃w1,w1=w.alloc (.cells #[.slice none 0 0] 72):=⟨_,rfl⟩;rw[<-e1] at h1 k1 s1;have E1:=aB e1;have H1:=aB h1;have K1:=aB k1;have S1:=aB s1;have HX:=aB hx;have HQ:=aB hseq;clear e1 h1 k1 s1 hx hseq;refine (callsIn_wide (n:=3)).1 ?_;refine callsIn_of_wp_marks Tryz.func290 rfl trivial ?_ rfl;refine wpIn_wide.2 ?_;simp only[Tryz.ntmps290,List.size_toArray,List.length_cons,List.length_nil,Nat.reduceAdd,Nat.reduceSub,Array.replicate_succ,Array.replicate_zero,List.push_toArray,List.append_toArray,List.nil_append,List.cons_append];go_wp2_with fail
 rw[<-aA E1];refine (wpIn_wide (n:=3)).1 ?_;refine wpIn_rangeFunc_ownG rfl Yo (gf:=g) (lb:=lb) rfl trivial eg (aA HQ) (λh k=>h.trans k) (λW l o o' hl h h2 h3=>belowK_b (w:=w1) (by have:=aA S1;omega) W l o o' hl h h2 h3) (aA K1) (λ_=>rfl)
  (ApI w) (λ_ _ _=>False) (aGN (aA S1)) (λ_ _ _ _ _ hs _ _=>hs)
  ⟨none,0,aA H1,World.ownsRow_nil _ _ _ _,aA K1,by have:=aA S1;omega⟩
  (λx=>{ tmps:=#[.slice none 0 0,.func (.func g) #[] lb,.pointer (some ⟨w.heap.size,0,none⟩),undef,.slice none 0 0,.int .i64 x,.func (.func g) #[] lb,.int .i64 x,undef,undef,undef,undef,undef],defers:=[] }) ?assign ?body ?done ?stop
 case assign=>
  intro l x W K hK
  gi_wp2
  exact hK
 case body=>
  rintro l pre x W ⟨ao,ac,h1,h2,h4,h5⟩ hlt;have c1:=h1.cell (i:=0) Yo;have hx64:=aA HX
  gi_wp2_with (first
   | (gi_at_builtin; refine wpListIn_append_own _ rfl _ _ 72 rfl (w.heap.size + 1) 3 i0 (.int .i64 0) 1 8 Tryz.underlying72 hi hz0 hz1 hz2 rfl Yc _ _ _ rfl (h2.alloc _) ⟨W.heap.size, 0, none⟩ 1 1 [.int .i64 x] rfl rfl (cell_one_new _ _ _) (by simp [Value.oneCell']) Ym Yo (by rw [dG]; omega) ?_
      intro v' w3 hown3 hgr3 _;obtain⟨g',cap',rfl⟩:=ownsRow_succ hown3;obtain⟨m3,kf,kx,ki⟩:=aCN (x:=x) w1.heap.size h1 h2 h4 h5 hown3 hgr3;have c3:=m3.cell (i:=0) Yo;have f3:=m3.free 0;have KF:=aB kf;have KX:=aB kx;have KI:=aB ki;clear kf kx ki hown3 hgr3 m3 h1 h2 h4 h5 c1
      go_frame)
   |gi_in)
  exact⟨aA KF,aA KX,aA KI⟩
 case done=>
  rintro D ys W hD rfl ⟨ao,ac,h1,h2,h4,h5⟩ hK;have c1:=h1.cell (i:=0) Yo;have H:=aB (⟨h1,h2,h4,h5⟩:_/\_/\_/\_);have HK:=aB hK;have HD:=aB hD;clear h1 h2 h4 h5 hK hD;go_wp2_with fail
  obtain⟨h1,h2,h4,h5⟩:=aA H;have hD:=aA HD;rw[aA S1] at hD;have o5:=ownsRow_putObj h2 (.deferred none) (aA HK) rfl;have b5:=h4.trans (belowK_b (w:=w) (Xr _) W D _ (.deferred none) Yo (aA HK) rfl rfl);refine⟨by simp,.inl ⟨_,_,rfl,run_takeDeferred (aA HK),?_⟩⟩;exact⟨_,results_tmp rfl _ _ _,⟨_,rfl,zQ o5 Yo,b5⟩⟩
 case stop=>
  rintro D c pre W _ _ h _;exact h.elim
theorem RF(g:Nat)(lb:Array Value)(xs:List Int)(w:World)(hx:xs.length<=64)(eg:∀args w,(callFunc g args).run Tryz.prog w=.ok (.enter g args) w)(hseq:LW g lb xs w):Calls Tryz.prog 272 #[.func (.func g) #[] lb] w λe w'=>∃v,e=.returned v/\w'.ownsRow w.heap.size 3 1 v xs.length (xs.map (Value.int .i64))/\Below w.heap.size w w':=by
 have C:=KM g lb xs w hx eg hseq;clear hseq eg;go_enter Tryz.func272,Tryz.ntmps272
 go_wp2_with fail
 refine C.mono ?_;rintro e w' ⟨v,rfl,h1,h2⟩;have H1:=aB h1;have H2:=aB h2;clear h1 h2 C;go_wp2_with fail
 go_ret
 exact⟨v,rfl,aA H1,aA H2⟩
theorem aFu(B:Nat)(v:Value)(xs:List Int)(w:World)(hx:xs.length<=64)(ho:w.ownsRow B 3 1 v xs.length (xs.map (Value.int .i64)))(hB:B<=w.heap.size):Calls Tryz.prog 273 #[v] w λe w'=>e=.returned (.tuple #[])/\w'.ownsRow B 3 1 v xs.length ((gZ xs).map (Value.int .i64))/\Below B w w':=by
 rcases ho.2 with ⟨rfl,hz⟩|⟨gb,cap,cur,rfl,hbase,hgb,r1,r2,r3,r4⟩
 .have hss:xs=[]:=List.eq_nil_of_length_eq_zero hz;subst hss;refine (AnyM.slices_Sort_int_none Tryz.sortInts none 0 w).mono ?_;rintro e w' ⟨rfl,rfl⟩;exact⟨rfl,by simpa [gZ] using ho,Below.refl _ _⟩
 .have hH:Holds (Value.int .i64) w gb 0 xs.toArray:=holds_of_blockI hgb (by simpa using r4);have hgl:gb<w.heap.size:=(Array.getElem?_eq_some_iff.1 hgb).1;refine (AnyM.slices_Sort_int Tryz.sortInts gb 0 cap xs w hH hgl Yo).mono ?_;rintro e w' ⟨rfl,nn,os,rfl⟩;refine⟨rfl,ownsRow_sortedI (IE xs) hbase hgb r1 r2 r3,?_⟩;exact (Below.refl B w).grown (grownBy_sortedI _) hB (λj hj=>by cases hj;exact hbase)
theorem XQ(g:Nat)(lb:Array Value)(xs:List Int)(w:World)(hx:xs.length<=64)(eg:∀args w,(callFunc g args).run Tryz.prog w=.ok (.enter g args) w)(hseq:LW g lb xs w):Calls Tryz.prog 244 #[.func (.func g) #[] lb] w λe w'=>∃ao cap,e=.returned (.slice ao xs.length cap)/\w'.ownsRow w.heap.size 3 1 (.slice ao xs.length cap) xs.length ((gZ xs).map (Value.int .i64))/\Below w.heap.size w w':=by
 have C:=RF g lb xs w hx eg hseq;clear hseq eg;go_enter Tryz.func244,Tryz.ntmps244
 go_wp2_with fail
 refine C.mono ?_;rintro e w1 ⟨v,rfl,h1,h2⟩;have S:=aFu w.heap.size v xs w1 hx h1 h2.size;obtain⟨ao,cap,rfl⟩:∃ao cap,v=.slice ao xs.length cap:=by
  rcases h1.2 with ⟨rfl,h0⟩|⟨b,c,_,rfl,_⟩
  .exact⟨none,0,by rw[h0]⟩
  .exact⟨_,c,rfl⟩
 have H2:=aB h2;clear h1 h2 C;go_wp2_with fail
 refine S.mono ?_;rintro e w2 ⟨rfl,h3,h4⟩;have H3:=aB h3;have H4:=aB h4;clear h3 h4 S;go_wp2_with fail
 go_ret
 exact⟨ao,cap,rfl,aA H3,(aA H2).trans (aA H4)⟩
end Go.Proofs.YthimcecbgpamdaaGreatDoor
namespace Go.Proofs.YthimcecbgpamdaaGreatDoor
open Go.RowKit Go.Shelf
attribute [local go_sem] Oper.semAt_some
variable{f:Nat->Int}{n:Nat}
theorem aLa{k:Nat}(hk:k<n):(jE f n).take (k+1)=(jE f n).take k++[f k]:=by
 rw[List.take_succ_eq_append_getElem (by rw[qB];exact hk)];simp[jE]
theorem aHS:(jE f n).take n=jE f n:=List.take_of_length_le (by rw[qB];exact Xr _)
set_option maxRecDepth 100000 in
theorem LA(X b o n cap:Nat)(f:Nat->Int)(w:World)(hn:n<=64)(hX:w.cell? ⟨X,0,none⟩=some (.slice (some ⟨b,o,none⟩) n cap))(hc:∀i,i<n->w.cell? ⟨b,o+i,none⟩=some (.int .i64 (f i))):LW 246 #[.pointer (some ⟨X,0,none⟩)] (jE f n) w:=by
 intro l J Jx W hW _ _ hY h0;have cx:W.cell? ⟨X,0,none⟩=some (.slice (some ⟨b,o,none⟩) n cap):=aU hX hW;refine callsIn_of_wp Tryz.func246 rfl trivial ?_ rfl;simp only[Tryz.ntmps246,List.size_toArray,List.length_cons,List.length_nil,Nat.reduceAdd,Nat.reduceSub,Array.replicate_succ,Array.replicate_zero,List.push_toArray,List.append_toArray,List.nil_append,List.cons_append]
 gi_wp2
 clear cx
 gi_loopw [7] (λq wr=>∃k:Nat,k<=n/\q=.int .i64 (k:Int)/\J ((jE f n).take k) wr/\Below w.heap.size w wr)
  (λq _=>n-(intOf q).toNat)
 case atStart=>exact⟨0,Xz _,rfl,by simpa using h0,hW⟩
 case round=>
  obtain⟨k,hk,rfl,hJs,hb⟩:=hrel
  rename World=>wr
  by_cases hlt:k<n
  .obtain⟨fn,tmps,assign,body,hy,hR⟩:=hY _ (f k) wr hJs (by rw[List.length_take,qB];omega);have ck:wr.cell? ⟨b,o+k,none⟩=some (.int .i64 (f k)):=aU (hc k hlt) hb;have hlt':(k:Int)<(n:Int):=Yo
   gi_wp2
   refine hR.mono ?_;rintro e W3 (⟨rfl,hJ3,hk3⟩|⟨rfl,hJx3⟩)
   .gi_wp2
    go_roundw
    case rel=>exact⟨k+1,Yo,by go_num,by rw[aLa hlt];exact hJ3,hb.trans hk3⟩
    case measure=>simp[intOf];omega
   .gi_wp2
    refine bodyPost_ret (results_none rfl _ _ _) rfl ?_;exact⟨⟨_,rfl⟩,.inr ⟨_,trivial,hJx3⟩⟩
  .obtain rfl:k=n:=Yo
   gi_wp2
   go_end0
   exact⟨⟨_,rfl⟩,.inl ⟨_,rfl,by rw[aHS] at hJs;exact hJs⟩⟩
theorem YE(ao:Option Addr)(len c:Nat)(w:World):Calls Tryz.prog 220 #[.slice ao len c] w λe w'=>e=.returned (.func (.func 246) #[] #[.pointer (some ⟨w.heap.size,0,none⟩)])/\Vh 72 w' w.heap.size 1 1 (λ_=>.slice ao len c)/\Below w.heap.size w w'/\w'.heap.size=w.heap.size+1:=by
 have h1:=ZE w (.slice ao len c);have h2:=bK w (.cells #[.slice ao len c] 72);have h3:=dG w (.cells #[.slice ao len c] 72);obtain⟨w1,e1⟩:∃w1,w1=w.alloc (.cells #[.slice ao len c] 72):=⟨_,rfl⟩;rw[<-e1] at h1 h2 h3;have H:=aB (⟨h1,h2,h3⟩:_/\_/\_);have E1:=aB e1;clear h1 h2 h3 e1;go_enter Tryz.func220,Tryz.ntmps220
 go_wp2_with fail
 rw[<-aA E1];go_ret
 exact⟨rfl,aA H⟩
end Go.Proofs.YthimcecbgpamdaaGreatDoor
namespace Go.Proofs.YthimcecbgpamdaaGreatDoor
open Go.RowKit Go.Shelf
attribute [local go_sem] Oper.semAt_some
end Go.Proofs.YthimcecbgpamdaaGreatDoor
namespace Go.Proofs.YthimcecbgpamdaaGreatDoor
open Go.RowKit
theorem NS(a b:Int)(w:World)(ra:R64 a)(rb:R64 b):Calls Tryz.prog 245 #[.int .i64 a,.int .i64 b] w λe w'=>e=.returned (.int .i64 ((a+b)/2))/\w'=w:=by
 obtain⟨p,q,h1,h2,⟨p1,p2⟩,⟨q1,q2⟩,h3⟩:=aAw ra rb;obtain⟨a1,a2⟩:=ra;obtain⟨b1,b2⟩:=rb;have E:=aB h3;have l1: -9223372036854775808<=p+q/2:=Yo;have l2:p+q/2<=9223372036854775807:=Yo;clear h3;go_enter Tryz.func245,Tryz.ntmps245
 go_wp2_with fail
 go_ret
 exact⟨by rw[aA E];rfl,rfl⟩
end Go.Proofs.YthimcecbgpamdaaGreatDoor
namespace Go.Proofs.YthimcecbgpamdaaGreatDoor
open Go.RowKit Go.Shelf
theorem VH{P:Int->Prop}{l:List Int}(h:∀x,x∈l->P x){k:Nat}{v:Int}(e:(gZ l)[k]?=some v):P v:=h v ((BM l).mem_iff.1 (List.mem_iff_getElem?.2 ⟨k,e⟩))
theorem UR{f:Nat->Int}{n:Nat}{x:Int}(h:x∈jE f n):∃i,i<n/\x=f i:=by
 unfold jE at h;obtain⟨i,hi,rfl⟩:=List.mem_map.1 h;exact⟨i,by simpa using hi,rfl⟩
variable{ao:Option Addr}
theorem aIl{w:World}{B:Nat}{cap:Nat}{xs:List Int}(h:w.ownsRow B 3 1 (.slice ao xs.length cap) xs.length ((gZ xs).map (Value.int .i64)))(h0:0<xs.length):∃b,ao=some ⟨b,0,none⟩/\∀k v,(gZ xs)[k]?=some v->w.cell? ⟨b,k,none⟩=some (.int .i64 v):=by
 have hh:=h;rcases h.2 with ⟨_,e⟩|⟨r,c,cur,e,_,_,hc,_⟩
 .omega
 .cases e
  refine⟨r,rfl,λk v hv=>?_⟩;have:=hh.cells (g:=r) rfl k (.int .i64 v) (by rw[List.getElem?_map,hv];rfl);rw[Addr.add_lit,Nat.zero_add] at this;exact this
def C2(p q:Addr)(x y:Value)(w:World):Prop:=w.cell? p=some x/\w.cell? q=some y
theorem WP(g:Nat)(lb:Array Value)(f:Nat->Int)(n:Nat)(w:World)(hn:1<=n)(hn2:n<=64)(hf:∀i,R64 (f i))(eg:∀args w,(callFunc g args).run Tryz.prog w=.ok (.enter g args) w)(hseq:LW g lb (jE f n) w):Calls Tryz.prog 219 #[.func (.func g) #[] lb] w λe w'=>∃m,uG f n m/\e=.returned (.int .i64 m)/\Below w.heap.size w w':=by
 have C:=XQ g lb (jE f n) w (by rw[qB];exact hn2) eg hseq;clear hseq eg;have HF:=aB hf;clear hf;go_enter Tryz.func219,Tryz.ntmps219
 go_wp2_with fail
 refine C.mono ?_;rintro e w1 ⟨ao,cap,rfl,h1,h2⟩;obtain⟨b,rfl,hc⟩:=aIl h1 (by rw[qB];omega);rw[qB] at*;obtain⟨q,eq⟩:∃q:Nat,(n-1)/3=q:=⟨_,rfl⟩;have lq:q<n:=Yo;obtain⟨x,hx⟩:∃x,(gZ (jE f n))[q]?=some x:=⟨_,List.getElem?_eq_getElem (by rw[IE,qB];exact lq)⟩;obtain⟨y,hy⟩:∃y,(gZ (jE f n))[n-1-q]?=some y:=⟨_,List.getElem?_eq_getElem (by rw[IE,qB];omega)⟩;have cx:=hc _ _ hx;have cy:=hc _ _ hy;have rx:R64 x:=VH (P:=R64) (λz hz=>by obtain⟨i,_,rfl⟩:=UR hz;exact aA HF i) hx;have ry:R64 y:=VH (P:=R64) (λz hz=>by obtain⟨i,_,rfl⟩:=UR hz;exact aA HF i) hy;have M:=aB (show uG f n ((x+y)/2) from by subst eq;exact UU hx hy);have K:=aB h2;obtain⟨p,ep⟩:∃p:Nat,n-1-q=p:=⟨_,rfl⟩;rw[ep] at cy;have ep':(n:Int)-1-(q:Int)=(p:Int):=Yo;have eq':((n:Int)-1).tdiv 3=(q:Int):=by
  rw[Int.tdiv_eq_ediv_of_nonneg Yo];omega
 have lp:p<n:=Yo;clear C h1 h2 hc hx hy;go_wp2_with fail
 have wn:IntKind.i64.wrap ((n:Int)-1)=(n:Int)-1:=by rw[IntKind.wrap_i64];omega
 have wp:IntKind.i64.wrap (p:Int)=(p:Int):=by rw[IntKind.wrap_i64];omega
 have i1:0<=(p:Int)/\(p:Int)<(n:Int):=Yo;have i2:0<=(q:Int)/\(q:Int)<(n:Int):=Yo;refine fD (S:=C2 ⟨b,q,none⟩ ⟨b,p,none⟩ (.int .i64 x) (.int .i64 y))
  [(0,false),(1,false),(2,false),(3,false),(4,false),(5,false),(6,false),(7,false),(8,false),(9,false),(10,false),(11,false),(12,true),(13,true)] [] Yl Yl ?_
 have hS:C2 ⟨b,q,none⟩ ⟨b,p,none⟩ (.int .i64 x) (.int .i64 y) w1.drew:=⟨cx,cy⟩;iterate 12
  refine bH (v:=?_) rfl (λ_ _ _ h=>h) (by rfl) hS ?_ ?_
  rotate_left 1
  .intro wx hwx;obtain⟨k1,k2⟩:=hwx;go_simp<;>exact rfl
  go_frame
 refine bO rfl (λK hK=>?_);go_simp
 refine (NS x y _ rx ry).mono ?_;rintro e w2 ⟨rfl,rfl⟩;refine hK _ _ (λ_=>hS) ?_;clear hK K;refine bO rfl (λK hK=>?_);go_simp
 refine hK _ _ (λ_=>hS) ?_;clear hK K;refine gV ?_;clear cx cy hS;obtain⟨m,em⟩:∃m,(x+y)/2=m:=⟨_,rfl⟩;rw[em] at M ⊢;clear em;go_wp2_with fail
 go_ret
 exact⟨m,aA M,rfl,aY (aA K)⟩
theorem FQ:aNl 180:=by
 intro ao n cap f w hf hl hc hs;by_cases h0:n=0
 .subst h0;go_enter Tryz.func180,Tryz.ntmps180
  go_wp2_with fail
  go_ret2
  exact⟨0,8,Or.inr ⟨Yo,rfl,rfl⟩,rfl,Below.refl _ _⟩
 .have z:(((n:Nat):Int)==0)=false:=by simp;omega
  by_cases h1:64<n
  .have h1':64<(n:Int):=Yo;have HF:=aB hf;have HS:=aB hs;clear hf hs;go_enter Tryz.func180,Tryz.ntmps180
   go_wp2_with fail
   go_ret2
   exact⟨0,8,Or.inr ⟨Yo,rfl,rfl⟩,rfl,Below.refl _ _⟩
  .have h1':(n:Int)<=64:=Yo;obtain⟨b,o,rfl,hcell⟩:=hs.rd Yo;have HF:=aB hf;have HC:=aB hcell;clear hf hcell hs;go_enter Tryz.func180,Tryz.ntmps180
   go_wp2_with fail
   refine (YE (some ⟨b,o,none⟩) n cap _).mono ?_;rintro e w1 ⟨rfl,bx,k1,s1⟩;have G:=WP 246 #[.pointer (some ⟨w.heap.size,0,none⟩)] f n w1 Yo Yo (aA HF) (enters_of Tryz.func246 Yl rfl)
    (LA w.heap.size b o n cap f w1 Yo (bx.cell (i:=0) Yo) (λi hi=>aU (aA HC i hi) k1))
   have K1:=aB k1;clear bx k1 s1;go_wp2_with fail
   refine G.mono ?_;rintro e w2 ⟨m,hm,rfl,k2⟩;have M:=aB hm;have K2:=aB ((aA K1).trans (k2.mono (aA K1).size));clear hm k2 G;go_wp2_with fail
   go_ret2
   exact⟨m,0,Or.inl ⟨Yo,Yo,rfl,aA M⟩,rfl,aA K2⟩
end Go.Proofs.YthimcecbgpamdaaGreatDoor
