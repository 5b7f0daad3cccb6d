import Derived.Test.YthimcecbgpamdaaGreatDoorNear160
import Derived.Lib.BitFns
set_option maxHeartbeats 4000000
set_option maxRecDepth 100000
open Go.Proofs.YthimcecbgpamdaaGreatDoor renaming Yo->C,aA->O,Ab->T,R64->U,hide->W
open _root_ renaming List->D,rfl->S,if_neg->δ,if_pos->ι,absurd->ρ,Option->υ
open Go.Value renaming int->Z,tuple->σ,slice->φ,int->ψ
open Option renaming some->β,none->ζ
open BitVec renaming ofInt->γ
open Go renaming Value->ε,Calls->η,World->μ,bits->ν,TypeId->ξ,Program->π,maxLen->τ
open Go.Proofs.Tryz renaming prog->θ
open Go.Ending renaming returned->κ,returned->χ
open List renaming range->ο
namespace Go.Proofs.YthimcecbgpamdaaGreatDoor
section
open Go.RowKit
class InfK (P:π) (t:ξ) (e:outParam ξ) (size bytes:outParam Nat):Prop where
 sl:P.underlying t=β (.slice e)
 inf:∃i z,P.info? e=β i/\i.zero=β z/\i.size=size/\i.bytes=bytes/\z.cells.size=size
 pos:0<size
theorem InfK.of{P:π}{t e:ξ}{size bytes:Nat}(sl:P.underlying t=β (.slice e))(h:(P.info? e).map (λi=>(i.size,i.bytes,i.zero.map λz=>z.cells.size))=β (size,bytes,β size):=by kernel_rfl)(pos:0<size:=by decide):InfK P t e size bytes:=by
 obtain⟨i,hi,e⟩:=Eu.1 h;cases hz:i.zero with
 |none=>rw[hz] at e;simp at e
 |some z=>rw[hz] at e;simp only[Gl,Cc,Gm] at e;exact⟨sl,⟨i,z,hi,hz,e.1,e.2.1,e.2.2⟩,pos⟩
def VZ(w:μ)(size:Nat)(x:ε)(m:Nat)(news:D ε):Prop:=(x=φ ζ 0 0/\m=0/\news=[])\/∃ad c,x=φ (β ad) m c/\news.length=m*size/\∀j u,news[j]?=β u->w.cell? (ad.add j)=β u
section
variable {P:π} {t e:ξ} {size bytes:Nat} {w:μ}
variable{B n:Nat}{v:ε}{xs:D ε}
theorem zU(h:w.ownsRow B e size v n xs):VZ w size v n xs:=by
 have hl:=h.1;rcases h.2 with ⟨rfl,rfl⟩|⟨g,cap,cur,rfl,hb,hg,hc,hm,hsz,hcur⟩
 .exact Or.inl ⟨S,S,by simpa using hl⟩
 exact T ⟨⟨g,0,ζ⟩,cap,S,hl,λj u hj=>h.cells S j u hj⟩
variable{news:D ε}
theorem aLq(I:InfK P t e size bytes)(hB:B<=w.heap.size)(ty){x}{m}(hown:w.ownsRow B e size v n xs)(hx:VZ w size x m news)(h1:∀u∈news,u.oneCell'=true)(h63:n+m<=τ)(hby:(n+m)*bytes<=140737488355328):∃v' w',(Builtin.append_ #[t,t] ty #[v,x]).run P w=.ok v' w'/\w'.ownsRow B e size v' (n+m) (xs++news)/\w.grownBy w' v.ownBlock/\∀k,v'.ownBlock=β k->v.ownBlock=β k\/w.heap.size<=k:=by
 obtain⟨i0,z,hi,hz0,hz1,hz2,hz3⟩:=I.inf;rcases hx with ⟨rfl,rfl,rfl⟩|⟨ad,c,rfl,hl,hnews⟩
 .have hrun:=run_append_owned_none (w:=w) B t ty e i0 size I.sl hi v n xs hown;exact⟨v,w,hrun,by simpa using hown,⟨S,S,S,Xr _,λ_ _ _=>rfl⟩,λk hk=>Or.inl hk⟩
 rcases hown.2 with ⟨rfl,rfl⟩|⟨r,cap,cur,rfl,hb,hg,hc,hm,hsz,hcur⟩
 .obtain rfl:xs=[]:=by simpa using hown.1
  obtain⟨v',w2,hrun,ho2,hgr,_⟩:=run_append_own w w.heap.size t ty e i0 z size bytes I.sl hi hz0 hz1 hz2 hz3 I.pos (φ ζ 0 0) 0 [] (Am _ _ _ _) ad m c news hl hnews h1 h63 hby (Xr _);exact⟨v',w2,hrun,cO ho2 hB,hgr,λk hk=>T (ho2.lt k hk).1⟩
 by_cases hfit:n+m<=cap
 .obtain⟨w2,hrun,ho2,hgr⟩:=run_append_fits w B t ty e i0 size I.sl hi hz1 r n cap xs hown ad m c news hl hnews h1 hfit;exact⟨_,w2,hrun,ho2,hgr,λk hk=>Aa hk⟩
 obtain⟨v',w2,hrun,ho2,hgr⟩:=run_append_arg_grows w t ty e i0 z size bytes I.sl hi hz0 hz1 hz2 hz3 I.pos ⟨r,0,ζ⟩ n cap xs hown.1 (λj u hj=>hown.cells rfl j u hj) ad m c news hl hnews C h63 hby;exact⟨v',w2,hrun,cO ho2 hB,⟨hgr.os,hgr.tape,hgr.output,hgr.size,λk hk _=>hgr.block k hk Mt⟩,λk hk=>T (ho2.lt k hk).1⟩
variable {o:Oper} {a:Act} {K:Act->μ->Prop} {Q:Exit->Act->μ->Prop}
theorem rQ{s x}(ho:o.op=.call { callee:=.builtin .append,args:=#[s,x],argTypes:=#[t,t] })(I:InfK P t e size bytes)(hB:B<=w.heap.size){u}{m}(hs:a.eval s=v)(hx:a.eval x=u)(hown:w.ownsRow B e size v n xs)(hr:VZ w size u m news)(h1:∀u∈news,u.oneCell'=true)(h63:n+m<=τ)(hby:(n+m)*bytes<=140737488355328)(h:∀v' w',w'.ownsRow B e size v' (n+m) (xs++news)->w.grownBy w' v.ownBlock->(∀k,v'.ownBlock=β k->v.ownBlock=β k\/w.heap.size<=k)->K (a.put o.dst v') w'):WpI P o a w K Q:=by obtain⟨v',w',hrun,h2,h3,h4⟩:=aLq I hB o.type hown hr h1 h63 hby;refine⟨?_⟩;unfold Oper.wp execOp;simp only[ho,resolve,invoke,builtin,Aq,Bo,Bb,Ay,Aw,Az,hs,hx,hrun];exact h v' w' h2 h3 h4
end
def It.and(x y:It):It:=⟨λw=>x.p w/\y.p w,λk=>x.foot k\/y.foot k,λh e=>⟨x.ok h.1 (λk h1 h2=>e k h1 (Aa h2)),y.ok h.2 (λk h1 h2=>e k h1 (T h2))⟩,λh e=>by
 rcases e with e|e
 .exact x.lt h.1 e
 exact y.lt h.2 e⟩
theorem Cx.merge{w0 w}{x y}{l}(H:Cx w0 w (x::y::l)):Cx w0 w (x.and y::l):=by
 obtain⟨d1,d2⟩:=Gf.1 H.dis;obtain⟨d3,d4⟩:=Gf.1 d2;refine⟨H.bel,λz hz=>?_,λz hz j hj=>?_,Gf.2 ⟨λz hz j h1 h2=>?_,d4⟩⟩
 .rcases Bv.1 hz with rfl|hz
  .exact⟨H.o0,H.o1⟩
  exact H.it z (Du _ (Du _ hz))
 .rcases Bv.1 hz with rfl|hz
  .rcases hj with hj|hj
   .exact H.up x Ee j hj
   exact H.up y (Du _ Ee) j hj
  exact H.up z (Du _ (Du _ hz)) j hj
 rcases h1 with h1|h1
 .grind
 grind
section
variable {P:π} {ops:Array Oper} {Q:Exit->Act->μ->Prop} {A:Act} {L:D (Nat×Value)} {w0 w:μ} {rest:D Oper} {o:Oper} {d:Nat} {l:D It} {x0 x1 x2 x3 x4 x5:It} {t e:ξ} {size bytes n m:Nat} {v u:ε} {xs news:D ε} {s x:Operand}
theorem OE{F:It->D It}(H:AtK w0 w (fU w0.heap.size e size v n xs) F)(hr:VZ w size u m news)(h1:∀u∈news,u.oneCell'=true)(h63:n+m<=τ)(hby:(n+m)*bytes<=140737488355328)(h:∀v' w',Cx w0 w' (F (fU w0.heap.size e size v' (n+m) (xs++news)))->LstI P ops Q rest (aV A ((d,v')::L)) w')(ho:o.op=.call { callee:=.builtin .append,args:=#[s,x],argTypes:=#[t,t] }:=by rfl)(I:InfK P t e size bytes:=by infer_instance)(hs:(aV A L).eval s=v:=by exact Qv)(hx:(aV A L).eval x=u:=by exact Qv)(hd:o.dst=β d:=by rfl)(hw:Region.wanted o (yielded ops (aV A L).tmps)=true:=by exact fE rfl):LstI P ops Q (o::rest) (aV A L) w:=
 bI hd hw (λ_ hK=>rQ ho I H.size hs hx H.o hr h1 h63 hby (λv' w' h2 h3 h4=>hK _ _ (h v' w' (H.put ⟨h3.os,h3.tape,h3.output,h3.size,λj h5 h6=>h3.block j h5 (λe=>h6 e.symm),h2,h4⟩))))
end
theorem aCB:∀n:Fin 256,n.val<2^Lib.bitLen n.val/\(n.val≠0->2^Lib.bitLen n.val<=2*n.val):=by decide+kernel
theorem len8_bd(y)(h0:0<=y)(h1:y<=255):0<=Lib.len8 y/\Lib.len8 y<=8:=by rw[Lib.len8_of y h0 h1];have:=Lib.bitLen_le8' y h0 h1;omega
theorem len_close(x y)(b:Nat)(hb:b<=56)(h1:1<=y)(h2:y<=255)(hy:y*2^b<=x)(hx:x<(y+1)*2^b):∃k:Nat,b+Lib.len8 y=k/\k<=64/\x<2^k/\2^k<=2*x:=by
 obtain⟨n,rfl⟩:=aB (show 0<=y by omega);have hn:n<256:=C;obtain⟨p1,p2⟩:=aCB ⟨n,hn⟩;have hl:=Lib.bitLen_le8 ⟨n,hn⟩;simp only at p1 p2 hl;refine⟨b+Lib.bitLen n,?_,C,?_,?_⟩
 .rw[Lib.len8_of _ C C,Hm];omega
 .have e:((n:Int)+1)<=2^Lib.bitLen n:=by exact_mod_cast p1
  have:=Ci e (show (0:Int)<=2^b from Ba (Int.pow_pos Yc));grind
 have e:(2:Int)^Lib.bitLen n<=2*n:=by exact_mod_cast (p2 C)
 have:=Ci e (show (0:Int)<=2^b from Ba (Int.pow_pos Yc));grind
theorem aHx(x)(x0:1<=x)(x1:x<18446744073709551616)(w):η θ 175 #[Z .u64 x] w λe w'=>∃k:Nat,e=κ (Z .i64 k)/\k<=64/\x<2^k/\2^k<=2*x/\w'=w:=by
 have L:=λ(e:Int) (b:Nat) (h:b<=56/\1<=e/\e<=255/\e*2^b<=x/\x<(e+1)*2^b)=>And.intro (λwx=>Lib.run_index_len8tab wx 9 .u8 e Ev C h.2.2.1) (And.intro (len8_bd e C h.2.2.1) (W (len_close x e b h.1 h.2.1 h.2.2.1 h.2.2.2.1 h.2.2.2.2)));by_cases a1:4294967296<=x;by_cases a2:65536<=x/4294967296;by_cases a3:256<=x/4294967296/65536;obtain⟨hr,⟨c0,c1⟩,HC⟩:=L (x/4294967296/65536/256) 56 Ypq;rotate_left;obtain⟨hr,⟨c0,c1⟩,HC⟩:=L (x/4294967296/65536) 48 Ypq;rotate_left;by_cases a3:256<=x/4294967296;obtain⟨hr,⟨c0,c1⟩,HC⟩:=L (x/4294967296/256) 40 Ypq;rotate_left;obtain⟨hr,⟨c0,c1⟩,HC⟩:=L (x/4294967296) 32 Ypq;rotate_left;by_cases a2:65536<=x;by_cases a3:256<=x/65536;obtain⟨hr,⟨c0,c1⟩,HC⟩:=L (x/65536/256) 24 Ypq;rotate_left;obtain⟨hr,⟨c0,c1⟩,HC⟩:=L (x/65536) 16 Ypq;rotate_left;by_cases a3:256<=x;obtain⟨hr,⟨c0,c1⟩,HC⟩:=L (x/256) 8 Ypq;rotate_left;obtain⟨hr,⟨c0,c1⟩,HC⟩:=L (x) 0 Ypq;all_goals
  go_in;go_wp2;go_ret;obtain⟨k,hk,h64,hlt,hle⟩:=O HC;exact⟨k,by rw[<-hk];first|rfl|(show _=χ (ψ .i64 (0+Lib.len8 x));rw[Int.zero_add];rfl),h64,hlt,hle,rfl⟩
theorem aKq(x)(x0:1<=x)(x1:x<18446744073709551616)(w):η θ 322 #[Z .u64 x] w λe w'=>∃s:Nat,e=κ (Z .i64 s)/\s<=63/\x*2^s<18446744073709551616/\9223372036854775808<=x*2^s/\w'=w:=by
 go_in;go_wp2_with fail;refine (aHx x x0 x1 _).mono ?_;rintro e w1 ⟨k,rfl,h64,hlt,hle,rfl⟩;have h1:1<=k:=by grind
 have ee:(2:Int)^k*2^(64-k)=18446744073709551616:=by rw[<-Ca,show k+(64-k)=64 by omega];decide
 have hp:(0:Int)<2^(64-k):=Int.pow_pos Yc;have m1:=Iz hlt hp;have m2:=Ci hle (Ba hp);rw[ee] at m1 m2;rw[Av] at m2;go_wp2_with fail;go_ret;exact⟨64-k,congrArg (λz=>χ (ψ .i64 z)) C,C,O (W m1),by have:=O (W m2);omega,rfl⟩
theorem aGC(hi lo y)(s)(hs:s<=63)(hi0:0<=hi)(lo0:0<=lo)(lo1:lo<18446744073709551616)(hy:hi<y)(hv:y*2^s<18446744073709551616):∃u t,ν .or .u64 (IntKind.u64.wrap (hi*2^s)) (lo/2^(64-s))=u/\IntKind.u64.wrap (lo*2^s)=t/\u*18446744073709551616+t=(hi*18446744073709551616+lo)*2^s/\0<=u/\u<y*2^s/\0<=t/\t<18446744073709551616:=by
 obtain⟨hi,rfl⟩:=aB hi0;obtain⟨lo,rfl⟩:=aB lo0;obtain⟨y,rfl⟩:=aB (show 0<=y by omega);have hP:=Nat.two_pow_pos s;have hQ:0<2^(64-s):=Nat.two_pow_pos _;have hPQ:2^(64-s)*2^s=18446744073709551616:=by rw[<-Nat.pow_add,show 64-s+s=64 by omega]
 have cP:((2:Int)^s)=((2^s:Nat):Int):=Mt;have cQ:((2:Int)^(64-s))=((2^(64-s):Nat):Int):=Mt;rw[cP] at hv ⊢;rw[cQ];have hd:=Nat.div_add_mod lo (2^(64-s));have hm:=qN lo hQ;have hlt:lo/2^(64-s)<2^s:=by rw[Ia hQ,Dk,hPQ];omega
 have h1:(hi+1)*2^s<=y*2^s:=Io _ C;rw[iN,Nat.one_mul] at h1;have hw:hi*2^s<18446744073709551616:=C;have ew:IntKind.u64.wrap ((hi:Int)*((2^s:Nat):Int))=((hi*2^s:Nat):Int):=by rw[<-gG,Eb];omega
 have ej:ν .or .u64 ((hi*2^s:Nat):Int) ((lo/2^(64-s):Nat):Int)=((hi*2^s+lo/2^(64-s):Nat):Int):=by rw[u64_or_nat _ _ hw C,nat_join s _ _ (Nat.mul_mod_left _ _) hlt]
 have et:IntKind.u64.wrap ((lo:Int)*((2^s:Nat):Int))=((lo%2^(64-s)*2^s:Nat):Int):=by
  have e3:lo*2^s=18446744073709551616*(lo/2^(64-s))+lo%2^(64-s)*2^s:=by grind
  have e4:lo%2^(64-s)*2^s<18446744073709551616:=by rw[<-hPQ];exact Nat.mul_lt_mul_of_pos_right hm hP
  rw[<-gG,Eb,e3];omega
 refine⟨((hi*2^s+lo/2^(64-s):Nat):Int),((lo%2^(64-s)*2^s:Nat):Int),by rw[ew,((Int.natCast_ediv _ _).symm),ej],et,?_,Int.natCast_nonneg _,?_,Int.natCast_nonneg _,?_⟩
 .have e3:lo*2^s=18446744073709551616*(lo/2^(64-s))+lo%2^(64-s)*2^s:=by grind
  grind
 .omega
 have e4:lo%2^(64-s)*2^s<18446744073709551616:=by rw[<-hPQ];exact Nat.mul_lt_mul_of_pos_right hm hP
 omega
theorem U3{u u1 v1 v0}(hu0:0<=u)(hu:u<v1*4294967296+v0)(hu1:u1<4294967296)(hv1:2147483648<=v1)(hv2:v1<4294967296)(h0:0<=v0)(h1:v0<4294967296):∃q p,u/v1=q/\q*v1=p/\0<=q/\q<=4294967297/\0<=p/\p<=u/\Z5 u u1 v1 v0 (u/v1) (u-p)/\u-p<4294967296:=by have h:=aGH hu0 hu hu1 hv1 h0 h1;have h2:u%v1<v1:=Fe _ C;have h3:=Fz u v1;have h5:=h;obtain⟨g0,g1,g2,g3,g4⟩:=h5;have h6:0<=u/v1*v1:=Hg g0 C;grind
theorem CO{u u1 v1 v0 q r}(h:Z5 u u1 v1 v0 q r)(hu:u<v1*4294967296+v0)(hu10:0<=u1)(hu1:u1<4294967296)(hv1:2147483648<=v1)(h0:0<=v0)(h1:v0<4294967296):(4294967296<=q/\r+v1<4294967296/\Z5 u u1 v1 v0 (q-1) (r+v1))\/(q<4294967296/\1<=q/\4294967296*r+u1<q*v0/\r+v1<4294967296/\Z5 u u1 v1 v0 (q-1) (r+v1))\/(4294967296<=q/\4294967296<=r+v1/\Z7 u u1 v1 v0 (q-1))\/(q<4294967296/\1<=q/\4294967296*r+u1<q*v0/\4294967296<=r+v1/\Z7 u u1 v1 v0 (q-1))\/(q<4294967296/\q*v0<=4294967296*r+u1/\Z7 u u1 v1 v0 q):=by
 by_cases hq:4294967296<=q
 .have hr:=WM h hu hu10 hu1 hv1 h0 (Aa hq);have hq1:=h.2.1;by_cases hb:4294967296<=r+v1
  .exact T (T (Aa ⟨hq,hb,WL hr.1 hu hu10 hu1 hv1 h0 h1 C hb⟩))
  grind
 by_cases ht:4294967296*r+u1<q*v0
 .have hr:=WM h hu hu10 hu1 hv1 h0 (T ht);by_cases hb:4294967296<=r+v1
  .exact T (T (T (Aa ⟨C,hr.2,ht,hb,WL hr.1 hu hu10 hu1 hv1 h0 h1 C hb⟩)))
  grind
 exact T (T (T (T ⟨C,C,aDV h C C⟩)))
theorem oO{u u1 v1 v0 v q}(h:Z7 u u1 v1 v0 q)(hv:v=v1*4294967296+v0)(hv1:v<18446744073709551616):∃z,IntKind.u64.wrap (IntKind.u64.wrap (IntKind.u64.wrap (u*4294967296)+u1)-IntKind.u64.wrap (q*v))=z/\0<=z/\z<v/\z=u*4294967296+u1-q*v:=by obtain⟨h0,h1,h2,h3⟩:=h;rw[<-hv,Bc v q] at h2 h3;refine⟨u*4294967296+u1-q*v,?_,C,C,S⟩;simp only[Eb];omega
theorem oW(N y P u t v q1 q0 z u1 u0:Int)(hP:0<P)(hv:y*P=v)(hN:u*18446744073709551616+t=N*P)(ht:t=u1*4294967296+u0)(hz:z=u*4294967296+u1-q1*v)(hr0:q0*v<=z*4294967296+u0)(hr1:z*4294967296+u0<q0*v+v):N/y=q1*4294967296+q0/\N%y=(z*4294967296+u0-q0*v)/P:=by
 have hy0:0<y:=by
  rcases Cm 0 y with h|h
  .exact h
  have:y*P<=0:=Int.mul_nonpos_of_nonpos_of_nonneg h (Ba hP);omega
 have e2:(N-y*(q1*4294967296+q0))*P=z*4294967296+u0-q0*v:=by grind
 have e3:(z*4294967296+u0-q0*v)/P=N-y*(q1*4294967296+q0):=by rw[<-e2];exact Int.mul_ediv_cancel _ C
 have h0:0<=N-y*(q1*4294967296+q0):=by
  rcases Cm (N-y*(q1*4294967296+q0)) 0 with h|h
  .have:=Int.mul_neg_of_neg_of_pos h hP;omega
  exact h
 have h1:N-y*(q1*4294967296+q0)<y:=by have:(N-y*(q1*4294967296+q0))*P<y*P:=C;exact Int.lt_of_mul_lt_mul_right this (Ba hP)
 have e4:N/y=q1*4294967296+q0:=oP hy0 C C;refine⟨e4,?_⟩;rw[e3,Int.emod_def,e4]
theorem aGK(hi lo y)(hi0:1<=hi)(lo0:0<=lo)(lo1:lo<18446744073709551616)(y1:y<18446744073709551616)(hy:hi<y)(w):η θ 313 #[Z .u64 hi,Z .u64 lo,Z .u64 y] w λe w'=>e=κ (σ #[Z .u64 ((hi*18446744073709551616+lo)/y),Z .u64 ((hi*18446744073709551616+lo)%y)])/\w'=w:=by
 have t1:(y==0)=false:=Mm;have t2:(hi==0)=false:=Mm;go_in;go_wp2_with fail;refine (aKq y C y1 _).mono ?_;rintro e w1 ⟨s,rfl,s63,hs1,hs2,rfl⟩;obtain⟨u,t,eu,et,hN,u0,uv,t0,tlt⟩:=aGC hi lo y s s63 C lo0 lo1 hy hs1;have HN:=W hN;have HP:=W (show (0:Int)<2^s from Int.pow_pos Yc);have HV:Hid (y*2^s=y*2^s):=rfl;clear hN;obtain⟨v,ev⟩:∃v,y*2^s=v:=⟨_,rfl⟩;rw[ev] at hs1 hs2 uv;have HE:=W ev;obtain⟨v1,ev1⟩:∃v1,v/4294967296=v1:=⟨_,rfl⟩;have m1:=u64_and v 4294967295 C hs1 C C;obtain⟨v0,ev0⟩:∃v0,ν .and .u64 v 4294967295=v0:=⟨_,rfl⟩;obtain⟨a1,ea1⟩:∃a1,t/4294967296=a1:=⟨_,rfl⟩;obtain⟨a0,ea0⟩:∃a0,ν .and .u64 t 4294967295=a0:=⟨_,rfl⟩;have bv0:v0=v%4294967296:=by rw[<-ev0];exact aHC v C hs1
 have ba0:a0=t%4294967296:=by rw[<-ea0];exact aHC t t0 tlt
 have c1:2147483648<=v1:=C;have c2:v1<4294967296:=C;have c3:0<=v0:=C;have c4:v0<4294967296:=C;have c5:0<=a1:=C;have c6:a1<4294967296:=C;have c7:0<=a0:=C;have c8:a0<4294967296:=C;have hvv:v=v1*4294967296+v0:=C;have HT:=W (show t=a1*4294967296+a0 by omega);have HVV:=W hvv;obtain⟨q,p,eq,ep,g0,g1,g2,g3,g4,g5⟩:=U3 (u1:=a1) u0 (by omega:u<v1*4294967296+v0) c6 c1 c2 c3 c4;have HS:=W g4;have HL:=W g5;clear g4 g5 bv0 ba0 hvv m1 HV;go_wp2_with fail;clear ep eu et eq ev1 ev0 ea1 ea0 ev g0 g1 g2 g3;go_loop [15,16] (λqs rs=>∃q r:Int,qs=Z .u64 q/\rs=Z .u64 r/\Z5 u a1 v1 v0 q r/\r<4294967296) (λqs _=>(intOf qs).toNat);case atStart=>exact⟨_,_,rfl,rfl,O HS,O HL⟩
 case round=>
  obtain⟨q,r,rfl,rfl,hd,hr⟩:=hrel;have hd2:=hd;obtain⟨q0,q1,r0,qe,ql⟩:=hd2;clear qe ql;have HW:=W (CO hd (by rw[<-O HVV];exact uv) c5 c6 c1 c3 c4);clear hd;have m1:q*v0<=18446744073709551615:=by have:=rZ q1 (show v0<=4294967295 by omega) c3 C;omega
  have m0:0<=q*v0:=Hg q0 c3;rcases O HW with ⟨k1,k2,k3⟩|⟨k1,k2,k3,k4,k5⟩|⟨k1,k2,hE⟩|⟨k1,k2,k3,k4,hE⟩|⟨k1,k2,hE⟩
  .have K3:=W k3;clear k3 HW;go_wp2_with fail;go_round;case rel=>exact⟨_,_,rfl,rfl,O K3,k2⟩
   case measure=>simp[intOf];omega
  .have K5:=W k5;clear k5 HW;go_wp2_with fail;go_round;case rel=>exact⟨_,_,rfl,rfl,O K5,k4⟩
   case measure=>simp[intOf];omega
  all_goals
   clear HW;first
    |(obtain⟨x,ex⟩:∃x,q-1=x:=⟨_,rfl⟩;rw[ex] at hE)
    |(obtain⟨x,ex⟩:∃x,x=q:=⟨_,rfl⟩;subst ex)
   obtain⟨z,ez,z0,z1,hz⟩:=oO hE (O HVV) hs1;have HZ:=W hz;obtain⟨d0,d1,d2,d3⟩:=hE;clear d2 d3 hz;obtain⟨b,p2,eb,ep2,b0,b1,b2,b3,b4,b5⟩:=U3 (u1:=a0) z0 (by have:=O HVV;omega:z<v1*4294967296+v0) c8 c1 c2 c3 c4;have HS2:=W b4;have HB:=W eb;have HL2:=W b5;clear b4 b5;go_wp2_with fail;clear ep2 eb b0 b1 b2 b3 ez;go_loop [18,16] (λqs rs=>∃q r:Int,qs=Z .u64 q/\rs=Z .u64 r/\Z5 z a0 v1 v0 q r/\r<4294967296) (λqs _=>(intOf qs).toNat);case atStart=>first|exact⟨_,_,rfl,rfl,O HS2,O HL2⟩|exact⟨_,_,rfl,rfl,(O HB) ▸ O HS2,O HL2⟩
   case round=>
    obtain⟨q',r',rfl,rfl,hd',hr'⟩:=hrel;have hd2:=hd';obtain⟨q0',q1',r0',qe,ql⟩:=hd2;clear qe ql;have HW:=W (CO hd' (by rw[<-O HVV];exact z1) c7 c8 c1 c3 c4);clear hd';have m1':q'*v0<=18446744073709551615:=by have:=rZ q1' (show v0<=4294967295 by omega) c3 C;omega
    have m0':0<=q'*v0:=Hg q0' c3;rcases O HW with ⟨j1,j2,j3⟩|⟨j1,j2,j3,j4,j5⟩|⟨j1,j2,hE⟩|⟨j1,j2,j3,j4,hE⟩|⟨j1,j2,hE⟩
    .have J3:=W j3;clear j3 HW;go_wp2_with fail;go_round;case rel=>exact⟨_,_,rfl,rfl,O J3,j2⟩
     case measure=>simp[intOf];omega
    .have J5:=W j5;clear j5 HW;go_wp2_with fail;go_round;case rel=>exact⟨_,_,rfl,rfl,O J5,j4⟩
     case measure=>simp[intOf];omega
    all_goals
     clear HW;first
      |(obtain⟨x',ex'⟩:∃x',q'-1=x':=⟨_,rfl⟩;rw[ex'] at hE)
      |(obtain⟨x',hx'⟩:∃x',x'=q':=⟨_,rfl⟩;subst hx')
     obtain⟨R,eR,R0,R1,hR⟩:=oO hE (O HVV) hs1;obtain⟨f1,f2⟩:=oW (hi*18446744073709551616+lo) y (2^s) u t v x x' z a1 a0 (O HP) (O HE) (O HN) (O HT) (O HZ) C C;rw[<-hR] at f2;have F1:=W f1;have F2:=W f2;obtain⟨e0,e1,e2,e3⟩:=hE;clear e2 e3 hR f1 f2;go_wp2_with fail;go_ret2;exact⟨by rw[O F1,O F2];rfl,rfl⟩
theorem aAB(n):n/4294967296*18446744073709551616+IntKind.u64.wrap (n*4294967296)=n*4294967296/\0<=IntKind.u64.wrap (n*4294967296)/\IntKind.u64.wrap (n*4294967296)<18446744073709551616:=by rw[Eb];omega
theorem aGT(n d:Int)(n0:0<=n)(n1:n<=9223372036854775808)(d1:1<=d)(h:n/4294967296<d):∃q r,n*4294967296/d=q/\n*4294967296%d=r/\n*4294967296=d*q+r/\0<=r/\r<d/\0<=q/\q<18446744073709551616/\(d-r<=r->q<18446744073709551615):=by
 have e:d*(n*4294967296/d)+n*4294967296%d=n*4294967296:=Fz _ _;have r0:0<=n*4294967296%d:=Fb _ C;refine⟨_,_,S,S,e.symm,r0,(Fe _ C),(Ei C C),?_,?_⟩
 .rcases Cm (n*4294967296/d) 18446744073709551616 with h1|h1
  .exact h1
  have:=Dl h1 (show 0<=d by omega);omega
 intro hr;rcases Cm (n*4294967296/d) 18446744073709551615 with h1|h1
 .exact h1
 have:=Dl h1 (show 0<=d by omega);omega
theorem aCV(n d q r:Int)(d1:1<=d)(h:d<=n/4294967296)(e:n*4294967296=d*q+r)(r1:r<d):18446744073709551616<=q:=by
 rcases Cm q 18446744073709551616 with h1|h1
 .have:=Dl (show q<=18446744073709551615 by omega) (show 0<=d by omega);omega
 exact h1
end
section
open Go.RowKit
theorem aGJ(hi lo y)(hi0:0<=hi)(lo0:0<=lo)(lo1:lo<18446744073709551616)(y1:y<18446744073709551616)(hy:hi<y)(w):η θ 313 #[Z .u64 hi,Z .u64 lo,Z .u64 y] w λe w'=>∃k,e=κ (σ #[Z .u64 ((hi*18446744073709551616+lo)/y),Z .u64 ((hi*18446744073709551616+lo)%y)])/\w'=w.drewN k:=by
 rcases Cm 0 hi with h|h
 .exact (aGK hi lo y C lo0 lo1 y1 hy w).mono λe w' h=>⟨0,h.1,h.2⟩
 have e0:hi=0:=C;subst e0;rw[Fa,Int.zero_add];go_in;go_wp2;go_region;go_wp2;go_ret2;exact⟨1,S,S⟩
def yC(a:Int):Int:=if a=0 then 0 else aAs (decide (a<0))
theorem aKI(a)(w):η θ 312 #[Z .i64 a] w λe w'=>e=κ (Z .i64 (yC a))/\w'=w:=by
 by_cases h:a=0
 .subst h;go_in;go_wp2;go_ret;exact⟨S,S⟩
 have E:Hid (yC a=aAs (decide (a<0))):=δ h;go_in;go_wp2_with fail;refine (UI _ _).mono ?_;rintro e w1 ⟨rfl,rfl⟩;go_wp2_with fail;go_ret;exact⟨Oa,S⟩
def gK(a b:Int):Int:=if b=0 then yC a else gD (vK a b)
def yX(a b:Int):Bool:=if b=0 then true else fO (vK a b)
theorem aJS(a)(w):η θ 297 #[Z .i64 a,Z .i64 0] w λe w'=>e=κ (σ #[Z .i64 (gK a 0),.bool (yX a 0)])/\w'=w:=by go_in;go_wp2_with fail;refine (aKI _ _).mono ?_;rintro e w1 ⟨rfl,rfl⟩;go_wp2_with fail;go_ret2;exact⟨S,S⟩
theorem aOd(a b)(ha:U a)(hb:U b)(w):η θ 297 #[Z .i64 a,Z .i64 b] w λe w'=>∃k,e=κ (σ #[Z .i64 (gK a b),.bool (yX a b)])/\w'=w.drewN k:=by
 by_cases hz:b=0
 .subst hz;exact (aJS a w).mono λe w' h=>⟨0,h.1,h.2⟩
 have E1:Hid (gK a b=gD (vK a b)):=δ hz;have E2:Hid (yX a b=fO (vK a b)):=δ hz;have t:(b==0)=false:=by simpa using hz
 have HQ:=W (aJP a b · · hz);have Ha:=W ha;have Hb:=W hb;obtain⟨x0,x1⟩:=jB ha;obtain⟨y0,y1⟩:=jB hb;have y2:1<=absZ b:=Nu;obtain⟨a1,a2⟩:=ha;obtain⟨b1,b2⟩:=hb;clear hz;go_in;go_wp2_with fail;refine (P5 a (O Ha) _).mono ?_;rintro e w1 ⟨rfl,rfl⟩;go_wp2_with fail;refine (P5 b (O Hb) _).mono ?_;rintro e w2 ⟨rfl,rfl⟩;have hn:negZ a b=(!decide (a<0)==decide (b<0)):=rfl;rw[<-hn];clear hn;generalize negZ a b=ng at*;generalize absZ a=n at*;generalize absZ b=d at*;by_cases h:d<=n/4294967296
 .have e0:d*(n*4294967296/d)+n*4294967296%d=n*4294967296:=Fz _ _;have r0:0<=n*4294967296%d:=Fb _ C;have r1:n*4294967296%d<d:=Fe _ C;have hov:=aCV n d _ _ y2 h e0.symm r1;have hq:=O HQ _ _ e0.symm r0 r1;have hov2:9223372036854775808<xA ng (n*4294967296/d) (n*4294967296%d) d:=by unfold xA;split<;>omega
  have HO:=W (NF ng _ hov2);rw[<-hq] at HO;clear HQ e0 r0 r1 hov hq hov2;go_wp2_with fail;refine (UI _ _).mono ?_;rintro e w3 ⟨rfl,rfl⟩;go_wp2_with fail;go_ret2;exact⟨0,by rw[O E1,O E2,(O HO).1,(O HO).2];rfl,rfl⟩
 obtain⟨f1,f2,f3⟩:=aAB n;obtain⟨q,r,eq,er,hqr,r0,r1,q0,q1,q2⟩:=aGT n d x0 x1 y2 C;have hq:=O HQ _ _ hqr r0 r1;clear HQ hqr;go_wp2_with fail;refine (aGJ _ _ _ C f2 f3 C C _).mono ?_;rintro e w3 ⟨k,rfl,rfl⟩;rw[f1,eq,er];clear f1 f2 f3 eq er;by_cases g:d-r<r\/(r=d-r/\ng=false)
 .have HQ:Hid (vK a b=cK ng (q+1)):=by rw[hq];unfold xA;rw[ι g];exact rfl
  clear hq;have q3:=q2 C;by_cases g1:d-r<r
  .go_wp2_with fail;refine (vP ng _ C C _).mono ?_;rintro e w4 ⟨rfl,rfl⟩;go_wp2_with fail;go_ret2;exact⟨_,Jd,S⟩
  have g2:(r==d-r)=true:=Mm;have g3:ng=false:=by rcases g with g|g;exact ρ g g1;exact g.2
  subst g3;go_wp2_with fail;refine (vP false _ C C _).mono ?_;rintro e w4 ⟨rfl,rfl⟩;go_wp2_with fail;go_ret2;exact⟨_,Jd,S⟩
 have HQ:Hid (vK a b=cK ng q):=by rw[hq];unfold xA;rw[δ g];exact rfl
 have g1:¬d-r<r:=λh=>g (Aa h);by_cases g2:r=d-r
 .have g3:ng=true:=by cases ng;exact ρ (T ⟨g2,S⟩) g;rfl
  have g4:(r==d-r)=true:=by simpa using g2
  subst g3;clear g g2;go_wp2_with fail;refine (vP true _ C C _).mono ?_;rintro e w4 ⟨rfl,rfl⟩;go_wp2_with fail;go_ret2;exact⟨_,Jd,S⟩
 have g4:(r==d-r)=false:=by simpa using g2
 go_wp2_with fail;refine (vP ng _ C C _).mono ?_;rintro e w4 ⟨rfl,rfl⟩;go_wp2_with fail;go_ret2;exact⟨_,Jd,S⟩
end
section
def stF(g:Nat->Int)(k:Nat)(x:Int):Nat->Int:=λj=>if j=k then x else g j
theorem aLU(g:Nat->Int)(k)(x):stF g k x k=x:=ι rfl
theorem aIT(g:Nat->Int){k j}(x)(h:j≠k):stF g k x j=g j:=δ h
theorem R64_nought:U 0:=by unfold U;omega
theorem aPa(a):U (yC a):=by unfold U yC aAs;omega
theorem vC(a b):U (gK a b):=by
 unfold gK;split
 .exact aPa a
 exact D5 _
end
section
open Go.RowKit
structure St where
 X:Int
 V:Int
 P00:Int
 P01:Int
 P11:Int
 B:Bool
 M:Int
structure St.Ok (s:St):Prop where
 X:U s.X
 V:U s.V
 P00:U s.P00
 P01:U s.P01
 P11:U s.P11
 M:U s.M
def kH(a b:Int):Int:=gD (a+b)
def xC(a b:Int):Int:=gD (a-b)
def fD(a b:Int):Int:=gD (zA a b)
def Z8(a b:Int):Bool:=fO (a+b)
def XK(a b:Int):Bool:=fO (a-b)
def yK(a b:Int):Bool:=fO (zA a b)
theorem qB(a b):U (kH a b):=D5 _
theorem zN(a b):U (xC a b):=D5 _
theorem lT(a b):U (fD a b):=D5 _
def sV(s:St)(dt q:Int):St where
 X:=kH s.X (fD s.V dt)
 V:=s.V
 P00:=kH (kH (kH s.P00 (fD s.P01 dt)) (fD s.P01 dt)) (fD (fD s.P11 dt) dt)
 P01:=kH s.P01 (fD s.P11 dt)
 P11:=kH s.P11 q
 B:=s.B||yK s.P01 dt||yK s.P11 dt||yK s.V dt||Z8 s.X (fD s.V dt)||Z8 s.P00 (fD s.P01 dt)||Z8 (kH s.P00 (fD s.P01 dt)) (fD s.P01 dt)||yK (fD s.P11 dt) dt||
  Z8 (kH (kH s.P00 (fD s.P01 dt)) (fD s.P01 dt)) (fD (fD s.P11 dt) dt)||Z8 s.P01 (fD s.P11 dt)||Z8 s.P11 q
 M:=s.M
variable{s:St}
theorem OC(h:s.Ok)(dt q):(sV s dt q).Ok:=⟨qB _ _,h.V,qB _ _,qB _ _,qB _ _,h.M⟩
def moreM(m:Int):Int:=wrap64 (m+1)
def offY(s:St)(z:Int):Int:=xC z s.X
def offW(s:St)(r:Int):Int:=kH s.P00 r
def sU(s:St)(z r gate:Int):Bool:=decide (offW s r<=0)||decide (fD gate (offW s r)<fD (offY s z) (offY s z))
def takeS(s:St)(y w:Int):St where
 X:=kH s.X (fD (gK s.P00 w) y)
 V:=kH s.V (fD (gK s.P01 w) y)
 P00:=xC s.P00 (fD (gK s.P00 w) s.P00)
 P01:=xC s.P01 (fD (gK s.P00 w) s.P01)
 P11:=xC s.P11 (fD (gK s.P01 w) s.P01)
 B:=s.B||yX s.P00 w||yX s.P01 w||yK (gK s.P00 w) y||Z8 s.X (fD (gK s.P00 w) y)||yK (gK s.P01 w) y||Z8 s.V (fD (gK s.P01 w) y)||
  yK (gK s.P00 w) s.P00||XK s.P00 (fD (gK s.P00 w) s.P00)||yK (gK s.P00 w) s.P01||XK s.P01 (fD (gK s.P00 w) s.P01)||yK (gK s.P01 w) s.P01||XK s.P11 (fD (gK s.P01 w) s.P01)
 M:=0
def bentU(s:St)(z r gate:Int):Bool:=s.B||XK z s.X||Z8 s.P00 r||yK (offY s z) (offY s z)||yK gate (offW s r)
def nN(s:St)(z r gate:Int):St:=if sU s z r gate then { s with M:=moreM s.M } else takeS { s with B:=bentU s z r gate } (offY s z) (offW s r)
def oL(s:St)(z r gate:Int):Bool:= !sU s z r gate
theorem aOP(m):U (moreM m):=by unfold moreM U;unfold wrap64;omega
theorem aQc(h:s.Ok)(z r gate):(nN s z r gate).Ok:=by
 unfold nN;split
 .exact⟨h.X,h.V,h.P00,h.P01,h.P11,aOP _⟩
 exact⟨qB _ _,qB _ _,zN _ _,zN _ _,zN _ _,R64_nought⟩
structure Tn where
 Dt:Int
 Q:Int
 R:Int
 G:Int
structure Tn.Ok (t:Tn):Prop where
 Dt:U t.Dt
 Q:U t.Q
 R:U t.R
 G:U t.G
def X9(s:St)(t:Tn)(z:Int):St:=nN (sV s t.Dt t.Q) z t.R t.G
def LD(s:St)(t:Tn)(z:Int):Bool:=oL (sV s t.Dt t.Q) z t.R t.G
theorem aCd(h:s.Ok)(t)(z):(X9 s t z).Ok:=aQc (OC h _ _) _ _ _
end
section
def cn(p:Nat->Bool):Nat->Nat
 |0=>0
 |n+1=>cn p n+if p n then 1 else 0
theorem zI(p:Nat->Bool)(n):cn p n<=n:=by
 induction n with
 |zero=>exact Xr _
 |succ n ih=>show cn p n+(if p n then 1 else 0)<=n+1;split<;>omega
variable{n:Nat}{p:Nat->Bool}
theorem aDQ{q:Nat->Bool}(h:∀i,i<n->p i=true->q i=true):cn p n<=cn q n:=by
 induction n with
 |zero=>exact Xr _
 |succ n ih=>show cn p n+(if p n then 1 else 0)<=cn q n+(if q n then 1 else 0);grind
theorem aRk(h:∀i,i<n->p i=true):cn p n=n:=by
 induction n with
 |zero=>rfl
 |succ n ih=>show cn p n+(if p n then 1 else 0)=n+1;grind
theorem aAf(h:0<cn p n):∃i,i<n/\p i=true:=by
 induction n with
 |zero=>exact ρ h (Nat.lt_irrefl 0)
 |succ n ih=>
  by_cases c:p n=true
  .exact⟨n,C,c⟩
  have e:cn p (n+1)=cn p n:=by show cn p n+(if p n then 1 else 0)=_;rw[δ c];rfl
  grind
theorem aRj{q r:Nat->Bool}(h:∀i,i<n->((p i=true/\q i=false/\r i=true)\/(p i=false/\q i=true/\r i=true)\/(p i=false/\q i=false/\r i=false))):cn p n+cn q n=cn r n:=by
 induction n with
 |zero=>rfl
 |succ n ih=>
  show (cn p n+if p n then 1 else 0)+(cn q n+if q n then 1 else 0)=cn r n+if r n then 1 else 0
  grind
def cl(f:Nat->Int)(n:Nat)(v:Int):Nat:=cn (λi=>decide (f i<v)) n
def ce(f:Nat->Int)(n:Nat)(v:Int):Nat:=cn (λi=>decide (f i=v)) n
def vH(f:Nat->Int)(n k:Nat)(v:Int):Prop:=cl f n v<=k/\k<cl f n v+ce f n v
theorem ZH(f:Nat->Int)(n)(v):cl f n v+ce f n v=cn (λi=>decide (f i<=v)) n:=by refine aRj (λi _=>?_);grind
variable{f:Nat->Int}{u v:Int}
theorem aNQ(h:v<u):cl f n v+ce f n v<=cl f n u:=by rw[ZH];exact aDQ (λi _ hp=>Xt (by have:=Xu hp;omega))
variable{j k:Nat}
theorem aEx(h:vH f n k v)(h':vH f n j u)(hk:k<=j):v<=u:=by
 rcases Cm u v with c|c
 .have:=aNQ (f:=f) (n:=n) c;have h1:=h.1;have h2:=h'.2;omega
 exact c
theorem aIe(h:vH f n k v)(h':vH f n k u):v=u:=by have:=aEx h h' (Xr _);have:=aEx h' h (Xr _);omega
theorem aSr(h:vH f n k v):∃i,i<n/\f i=v:=by
 have:0<ce f n v:=by have:=h.1;have:=h.2;omega
 obtain⟨i,hi,hp⟩:=aAf this;grind
theorem aIf(m):(∃i,i<m/\k<cl f n (f i)+ce f n (f i))->∃i,i<m/\k<cl f n (f i)+ce f n (f i)/\∀j,j<m->k<cl f n (f j)+ce f n (f j)->f i<=f j:=by
 induction m with
 |zero=>rintro⟨i,hi,_⟩;omega
 |succ m ih=>
  rintro⟨i,hi,hk⟩;by_cases c:∃i,i<m/\k<cl f n (f i)+ce f n (f i)
  .grind
  grind
theorem aIX(m):(∃i,i<m/\f i<u)->∃i,i<m/\f i<u/\∀j,j<m->f j<u->f j<=f i:=by
 induction m with
 |zero=>rintro⟨i,hi,_⟩;omega
 |succ m ih=>
  rintro⟨i,hi,hu⟩;by_cases c:∃i,i<m/\f i<u
  .grind
  grind
theorem aPU(f:Nat->Int)(m)(hm:0<m):∃i,i<m/\∀j,j<m->f j<=f i:=by
 induction m with
 |zero=>omega
 |succ m ih=>
  rcases Bj m with h|h
  .subst h;grind
  obtain⟨i,hi,hl⟩:=ih h;by_cases c:f i<=f m
  .refine⟨m,C,λj hj=>?_⟩;grind
  refine⟨i,C,λj hj=>?_⟩;grind
theorem aTl(f:Nat->Int)(n k)(hk:k<n):∃i,i<n/\vH f n k (f i):=by
 obtain⟨t,ht,htop⟩:=aPU f n C;have full:cl f n (f t)+ce f n (f t)=n:=by rw[ZH];exact aRk (λi hi=>Xt (htop i hi))
 obtain⟨i,hi,hki,hl⟩:=aIf (f:=f) (n:=n) (k:=k) n ⟨t,ht,C⟩;refine⟨i,hi,?_,hki⟩;rcases Bj (cl f n (f i)) with h0|h0
 .omega
 obtain⟨j,hj,hp⟩:=aAf h0;obtain⟨a,ha,hau,hal⟩:=aIX n ⟨j,hj,Xu hp⟩;have e:cl f n (f i)<=cl f n (f a)+ce f n (f a):=by rw[ZH];exact aDQ (λb hb hp=>Xt (hal b hb (Xu hp)))
 grind
def R9(f:Nat->Int)(n:Nat)(m:Int):Prop:=∃a b,vH f n ((n-1)/3) a/\vH f n (n-1-(n-1)/3) b/\m=(a+b)/2
theorem aOO{m m'}(h:R9 f n m)(h':R9 f n m'):m=m':=by obtain⟨a,b,ha,hb,rfl⟩:=h;obtain⟨a',b',ha',hb',rfl⟩:=h';rw[aIe ha ha',aIe hb hb']
def QP(p:Prop)[Decidable p]:Nat:=if p then 1 else 0
theorem aRJ(p)[Decidable p]:QP p<=1:=by unfold QP;split<;>omega
variable{p:Prop}
theorem wD[Decidable p](h:p):QP p=1:=ι h
theorem IQ[Decidable p](h:¬p):QP p=0:=δ h
structure Rl where
 I:Nat->Bool
 M:Nat->Int
 J:Nat->Int
def fP{α:Type}(f:Nat->α)(q:Nat)(x:α)(j:Nat):α:=if j=q then x else f j
variable{α:Type}
theorem dZ(f:Nat->α)(q)(x):fP f q x q=x:=ι rfl
theorem dI(f:Nat->α){q}(x)(h:j≠q):fP f q x j=f j:=δ h
def gF:Rl:=⟨λ_=>false,λ_=>0,λ_=>0⟩
def beginR:Rl:=⟨λ_=>true,λ_=>0,λ_=>0⟩
def gd(r:Rl)(j:Nat):Bool:=if r.I j then decide (0<=r.M j)&&decide (r.M j<=2)&&decide (r.J j=0) else decide (r.M j=0)&&decide (0<=r.J j)&&decide (r.J j<=2)
def mR(r:Rl):Bool:=gd r 0&&gd r 1&&gd r 2&&gd r 3
variable{r:Rl}
theorem gd_in(h:r.I j=true):gd r j=true↔0<=r.M j/\r.M j<=2/\r.J j=0:=by unfold gd;grind
theorem uW(h:r.I j=false):gd r j=true↔r.M j=0/\0<=r.J j/\r.J j<=2:=by unfold gd;grind
theorem xL:mR r=true↔∀j,j<4->gd r j=true:=by grind [mR]
theorem I1(hj:j<4)(h:gd r j=false):mR r=false:=by
 cases e:mR r with
 |false=>rfl
 |true=>rw[xL.1 e j hj] at h;cases h
def mY(A:Nat->Bool)(i:Nat)(r:Rl):Rl:=
 if r.I i=true then (if A i=true then ⟨r.I,fP r.M i 0,r.J⟩ else if 2<=r.M i+1/\2<cn r.I 4 then ⟨fP r.I i false,fP r.M i 0,r.J⟩ else ⟨r.I,fP r.M i (min (r.M i+1) 2),r.J⟩)
 else if A i=true then (if 3<=r.J i+1 then ⟨fP r.I i true,r.M,fP r.J i 0⟩ else ⟨r.I,r.M,fP r.J i (r.J i+1)⟩) else ⟨r.I,r.M,fP r.J i 0⟩
def nI(A:Nat->Bool)(i:Nat)(r:Rl):D (Int×Nat):=
 if r.I i=true then (if A i=true then [] else if 2<=r.M i+1/\2<cn r.I 4 then [(1,i)] else []) else if A i=true then (if 3<=r.J i+1 then [(2,i)] else []) else []
section
variable {A:Nat->Bool} {i:Nat} {r:Rl}
theorem st_agree(h:r.I i=true)(a:A i=true):mY A i r=⟨r.I,fP r.M i 0,r.J⟩/\nI A i r=[]:=by unfold mY nI;grind
theorem aCc(h:r.I i=true)(a:A i=false)(c:2<=r.M i+1/\2<cn r.I 4):mY A i r=⟨fP r.I i false,fP r.M i 0,r.J⟩/\nI A i r=[(1,i)]:=by grind [mY,nI]
theorem BM(h:r.I i=true)(a:A i=false)(c:¬(2<=r.M i+1/\2<cn r.I 4)):mY A i r=⟨r.I,fP r.M i (min (r.M i+1) 2),r.J⟩/\nI A i r=[]:=by grind [mY,nI]
theorem aFW(h:r.I i=false)(a:A i=true)(c:3<=r.J i+1):mY A i r=⟨fP r.I i true,r.M,fP r.J i 0⟩/\nI A i r=[(2,i)]:=by grind [mY,nI]
theorem VT(h:r.I i=false)(a:A i=true)(c:¬3<=r.J i+1):mY A i r=⟨r.I,r.M,fP r.J i (r.J i+1)⟩/\nI A i r=[]:=by grind [mY,nI]
theorem aCa(h:r.I i=false)(a:A i=false):mY A i r=⟨r.I,r.M,fP r.J i 0⟩/\nI A i r=[]:=by grind [mY,nI]
theorem OZ(A:Nat->Bool)(i)(r):(r.I i=true/\A i=true/\mY A i r=⟨r.I,fP r.M i 0,r.J⟩/\nI A i r=[])\/(r.I i=true/\A i=false/\(2<=r.M i+1/\2<cn r.I 4)/\mY A i r=⟨fP r.I i false,fP r.M i 0,r.J⟩/\nI A i r=[(1,i)])\/(r.I i=true/\A i=false/\¬(2<=r.M i+1/\2<cn r.I 4)/\mY A i r=⟨r.I,fP r.M i (min (r.M i+1) 2),r.J⟩/\nI A i r=[])\/(r.I i=false/\A i=true/\3<=r.J i+1/\mY A i r=⟨fP r.I i true,r.M,fP r.J i 0⟩/\nI A i r=[(2,i)])\/(r.I i=false/\A i=true/\¬3<=r.J i+1/\mY A i r=⟨r.I,r.M,fP r.J i (r.J i+1)⟩/\nI A i r=[])\/(r.I i=false/\A i=false/\mY A i r=⟨r.I,r.M,fP r.J i 0⟩/\nI A i r=[]):=by
 cases h:r.I i with
 |true=>
  cases a:A i with
  |true=>exact Aa ⟨rfl,rfl,st_agree h a⟩
  |false=>
   by_cases c:2<=r.M i+1/\2<cn r.I 4
   .exact T (Aa ⟨S,S,c,aCc h a c⟩)
   exact T (T (Aa ⟨S,S,c,BM h a c⟩))
 |false=>
  cases a:A i with
  |true=>
   by_cases c:3<=r.J i+1
   .exact T (T (T (Aa ⟨S,S,c,aFW h a c⟩)))
   exact T (T (T (T (Aa ⟨S,S,c,VT h a c⟩))))
  |false=>exact T (T (T (T (T ⟨rfl,rfl,aCa h a⟩))))
theorem aCb(hj:j≠i):(mY A i r).I j=r.I j/\(mY A i r).M j=r.M j/\(mY A i r).J j=r.J j:=by rcases OZ A i r with ⟨_,_,e,_⟩|⟨_,_,_,e,_⟩|⟨_,_,_,e,_⟩|⟨_,_,_,e,_⟩|⟨_,_,_,e,_⟩|⟨_,_,e,_⟩<;>rw[e]<;>simp[dI _ _ hj]
theorem aKf{s}(h1:s.I j=r.I j)(h2:s.M j=r.M j)(h3:s.J j=r.J j):gd s j=gd r j:=by unfold gd;rw[h1,h2,h3]
theorem aOm(h:gd r i=true):gd (mY A i r) i=true:=by
 rcases OZ A i r with ⟨a,_,e,_⟩|⟨a,_,_,e,_⟩|⟨a,_,_,e,_⟩|⟨a,_,_,e,_⟩|⟨a,_,c,e,_⟩|⟨a,_,e,_⟩<;>rw[e]
 .have:=(gd_in a).1 h;refine (gd_in (r:=⟨r.I,fP r.M i 0,r.J⟩) a).2 ?_;show 0<=fP r.M i 0 i/\fP r.M i 0 i<=2/\r.J i=0;rw[dZ];omega
 .have:=(gd_in a).1 h;refine (uW (dZ _ _ _)).2 ?_;show fP r.M i 0 i=0/\0<=r.J i/\r.J i<=2;rw[dZ];omega
 .have:=(gd_in a).1 h;refine (gd_in (r:=⟨r.I,fP r.M i (min (r.M i+1) 2),r.J⟩) a).2 ?_;show 0<=fP r.M i (min (r.M i+1) 2) i/\fP r.M i (min (r.M i+1) 2) i<=2/\r.J i=0;rw[dZ];omega
 .have:=(uW a).1 h;refine (gd_in (dZ _ _ _)).2 ?_;show 0<=r.M i/\r.M i<=2/\fP r.J i 0 i=0;rw[dZ];omega
 .have:=(uW a).1 h;refine (uW (r:=⟨r.I,r.M,fP r.J i (r.J i+1)⟩) a).2 ?_;show r.M i=0/\0<=fP r.J i (r.J i+1) i/\fP r.J i (r.J i+1) i<=2;rw[dZ];omega
 have:=(uW a).1 h;refine (uW (r:=⟨r.I,r.M,fP r.J i 0⟩) a).2 ?_;show r.M i=0/\0<=fP r.J i 0 i/\fP r.J i 0 i<=2;rw[dZ];omega
theorem aKe(h:mR r=true):mR (mY A i r)=true:=by
 rw[xL] at h ⊢;intro j hj;by_cases e:j=i
 .subst e;exact aOm (h j hj)
 obtain⟨h1,h2,h3⟩:=aCb e;rw[aKf h1 h2 h3];exact h j hj
end
def rnN(A:Nat->Bool)(r:Rl):Nat->Rl×List (Int×Nat)
 |0=>(r,[])
 |i+1=>(mY A i (rnN A r i).1,(rnN A r i).2++nI A i (rnN A r i).1)
section
variable {A:Nat->Bool} {r:Rl}
theorem KW(h:mR r=true):∀i,mR (rnN A r i).1=true
 |0=>h
 |i+1=>aKe (KW h i)
theorem aEy:∀i {j},i<=j->(rnN A r i).1.I j=r.I j/\(rnN A r i).1.M j=r.M j/\(rnN A r i).1.J j=r.J j
 |0,_,_=>⟨rfl,rfl,rfl⟩
 |i+1,j,h=>by obtain⟨a,b,c⟩:=aEy i (j:=j) C;obtain⟨d,e,f⟩:=aCb (A:=A) (r:=(rnN A r i).1) (i:=i) (j:=j) C;exact⟨d.trans a,e.trans b,f.trans c⟩
theorem aRi(A:Nat->Bool)(i)(r):(nI A i r).length<=1:=by rcases OZ A i r with ⟨_,_,_,e⟩|⟨_,_,_,_,e⟩|⟨_,_,_,_,e⟩|⟨_,_,_,_,e⟩|⟨_,_,_,_,e⟩|⟨_,_,_,e⟩<;>rw[e]<;>simp
theorem SN(A:Nat->Bool)(r:Rl):∀i,(rnN A r i).2.length<=i
 |0=>Xr _
 |i+1=>by have:=SN A r i;have:=aRi A i (rnN A r i).1;show ((rnN A r i).2++nI A i (rnN A r i).1).length<=i+1;rw[Ag];omega
end
def stR(r:Rl)(st:Bool)(n:Nat)(A:Nat->Bool):Rl×List (Int×Nat)×Int:=
 if n≠4 then (gF,[],8) else if mR r=false then (gF,[],3) else if st=true then ((rnN A r 4).1,(rnN A r 4).2,0) else (r,[],0)
section
variable {A:Nat->Bool} {r:Rl}
theorem TJ(h:mR r=true):stR r true 4 A=((rnN A r 4).1,(rnN A r 4).2,0):=by unfold stR;grind
theorem aBZ(h:mR r=true):stR r false 4 A=(r,[],0):=by unfold stR;grind
end
def vk(b:Nat->Bool)(v:Nat->Int)(x:Int):Nat->Nat
 |0=>0
 |k+1=>vk b v x k+if b k=true/\v k=x then 1 else 0
def ti(b:Nat->Bool):Nat->Nat
 |0=>0
 |k+1=>ti b k+if b k=true then 1 else 0
theorem aMF(b:Nat->Bool)v(x)(k):vk b v x k<=ti b k:=by
 induction k with
 |zero=>exact Xr _
 |succ k ih=>show vk b v x k+_<=ti b k+_;grind
theorem TN(b:Nat->Bool)(k):ti b k<=k:=by
 induction k with
 |zero=>exact Xr _
 |succ k ih=>show ti b k+_<=k+1;split<;>omega
theorem FH(b:Nat->Bool)v(x)(k):vk b v x k<=k:=Ap (aMF b v x k) (TN b k)
variable{b:Nat->Bool}
theorem zW(h:ti b k=0):∀i,i<k->b i=false:=by
 induction k with
 |zero=>intro i hi;omega
 |succ k ih=>have h2:ti b k+(if b k=true then 1 else 0)=0:=h;grind
variable{i:Nat}
theorem aSD(hi:i<k)(h:b i=true):0<ti b k:=by
 rcases Bj (ti b k) with e|e
 .have:=zW e i hi;grind
 exact e
variable{v:Nat->Int}
theorem aSK(hi:i<k)(h:b i=true):0<vk b v (v i) k:=by
 induction k with
 |zero=>omega
 |succ k ih=>show 0<vk b v (v i) k+_;grind
def xG(v:Nat->Int)(b:Nat->Bool)(k:Nat)(X:Int):Prop:=
 (ti b k=0/\X=0)\/∃m,m<k/\b m=true/\X=v m/\(∀i,i<k->b i=true->vk b v (v i) 4<=vk b v X 4)/\∀i,i<m->b i=true->vk b v (v i) 4<vk b v X 4
theorem IW(v:Nat->Int)b:xG v b 0 0:=Aa ⟨rfl,rfl⟩
variable{X:Int}
theorem isV_out(h:xG v b k X)(hb:b k=false):xG v b (k+1) X:=by
 rcases h with ⟨h1,h2⟩|⟨m,h1,h2,h3,h4,h5⟩
 .refine Aa ⟨?_,h2⟩;show ti b k+_=0;grind
 refine T ⟨m,C,h2,h3,λi hi hbi=>?_,h5⟩;grind
theorem NQ(h:xG v b k X)(hb:b k=true)(hc:vk b v X 4<vk b v (v k) 4\/ti b k=0):xG v b (k+1) (v k):=by
 refine T ⟨k,C,hb,S,?_⟩;rcases h with ⟨h1,h2⟩|⟨m,h1,h2,h3,h4,h5⟩
 .refine⟨λi hi hbi=>?_,λi hi hbi=>?_⟩
  .by_cases e:i=k
   .grind
   have:=zW h1 i C;grind
  have:=zW h1 i hi;grind
 have hp:vk b v X 4<vk b v (v k) 4:=by
  rcases hc with h|h
  .exact h
  have:=zW h m h1;grind
 grind
theorem IV(h:xG v b k X)(hc:¬(vk b v X 4<vk b v (v k) 4))(ht:ti b k≠0):xG v b (k+1) X:=by
 rcases h with ⟨h1,h2⟩|⟨m,h1,h2,h3,h4,h5⟩
 .omega
 refine T ⟨m,C,h2,h3,λi hi hbi=>?_,h5⟩;grind
theorem aOy{Y}(h:xG v b k X)(h':xG v b k Y):X=Y:=by
 rcases h with ⟨h1,h2⟩|⟨m,h1,h2,h3,h4,h5⟩<;>rcases h' with ⟨g1,g2⟩|⟨m',g1,g2,g3,g4,g5⟩
 .rw[h2,g2]
 .have:=zW h1 m' g1;grind
 .have:=zW g1 m h1;grind
 grind
def JX(v:Nat->Int)(b:Nat->Bool)(X:Int):Bool:=decide (0<ti b 4/\ti b 4<2*vk b v X 4)
def uE(v:Nat->Int)(b:Nat->Bool)(X:Int)(i:Nat):Bool:=decide (0<ti b 4/\v i=X)
def KH(f:Nat->Int)(n:Nat)(other m:Int):Prop:=(n<2*ce f n m)\/((∀v,¬n<2*ce f n v)/\m=other)
variable{v:Int}
theorem aRg(h:u≠v):ce f n u+ce f n v<=n:=by
 induction n with
 |zero=>exact Xr _
 |succ n ih=>show (cn _ n+if decide (f n=u)=true then 1 else 0)+(cn _ n+if decide (f n=v)=true then 1 else 0)<=n+1;have ih':cn (λi=>decide (f i=u)) n+cn (λi=>decide (f i=v)) n<=n:=ih;grind
theorem aEk{other m m'}(h:KH f n other m)(h':KH f n other m'):m=m':=by
 rcases h with h|⟨h,e⟩<;>rcases h' with h'|⟨h',e'⟩
 .by_cases c:m=m'
  .exact c
  have:=aRg (f:=f) (n:=n) c;omega
 .grind
 .grind
 rw[e,e']
def WI(a b c:Int):Int:=if a=b then a else if a=c then a else if b=c then b else 0
theorem ce3(f:Nat->Int)(v):ce f 3 v=QP (f 0=v)+QP (f 1=v)+QP (f 2=v):=by
 have e:∀i,(if decide (f i=v)=true then 1 else 0)=QP (f i=v):=λi=>by unfold QP;by_cases h:f i=v<;>simp[h]
 show ((0+(if decide (f 0=v)=true then 1 else 0))+(if decide (f 1=v)=true then 1 else 0))+(if decide (f 2=v)=true then 1 else 0)=_;grind
theorem aDR(f:Nat->Int):KH f 3 0 (WI (f 0) (f 1) (f 2)):=by
 unfold WI;split
 .rename_i h;refine Aa ?_;rw[ce3,wD S,wD h.symm];omega
 split
 .rename_i h;refine Aa ?_;rw[ce3,wD S,wD h.symm];omega
 split
 .rename_i h;refine Aa ?_;rw[ce3,wD S,wD h.symm];omega
 refine T ⟨λv=>?_,S⟩;rw[ce3];by_cases a:f 0=v
 .rw[wD a,IQ C,IQ C];omega
 rw[IQ a];by_cases b:f 1=v
 .rw[wD b,IQ C];omega
 rw[IQ b];have:=aRJ (f 2=v);omega
def o1(q s:Nat):Nat:=if 0≠q/\0≠s then 0 else if 1≠q/\1≠s then 1 else 2
def o2(q s:Nat):Nat:=if 3≠q/\3≠s then 3 else if 2≠q/\2≠s then 2 else 1
def nP(f:Nat->Int)(n:Nat):D Int:=(ο n).map f
theorem wF(f:Nat->Int)(n):(nP f n).length=n:=by simp[nP]
theorem aKt(f:Nat->Int)(n):nP f (n+1)=nP f n++[f n]:=by simp[nP,List.range_succ]
theorem WH(f:Nat->Int)p(n):cn (λi=>p (f i)) n=(nP f n).countP p:=by
 induction n with
 |zero=>rfl
 |succ n ih=>rw[aKt,List.countP_append, <-ih];show cn _ n+(if p (f n) then 1 else 0)=_;grind
def kI(l:D Int):D Int:=l.mergeSort (λx y=>decide (x<=y))
theorem VS(l):(kI l).length=l.length:=by unfold kI;simp_all
theorem OY(l):(kI l).Perm l:=by unfold kI;exact List.mergeSort_perm _ _
theorem aSB(l):(kI l).Pairwise (λx y=>x<=y):=by
 have h:(kI l).Pairwise (λx y=>decide (x<=y)=true):=by
  unfold kI;exact List.pairwise_mergeSort (λa b c h1 h2=>by have:=Xu h1;have:=Xu h2;exact Xt C) (λa b=>by
   rcases Int.le_total a b with h|h
   .rw[Xt h];rfl
   rw[Xt h,Bool.or_true]) l
 grind
variable{l:D Int}
theorem aIS{x y}(hi:(kI l)[i]?=β x)(hj:(kI l)[j]?=β y)(h:i<=j):x<=y:=by
 rcases Ar i j with c|c
 .obtain⟨a,rfl⟩:=(Gi.1 hi);obtain⟨b,rfl⟩:=(Gi.1 hj);exact List.pairwise_iff_getElem.1 (aSB l) i j a b c
 grind
theorem aLS(h:(kI l)[k]?=β v):(kI l).countP (λx=>decide (x<v))<=k:=by
 rw[<-(uV k (kI l)),List.countP_append];have h1:((kI l).take k).countP (λx=>decide (x<v))<=k:=Ap List.countP_le_length Mm;have h2:((kI l).drop k).countP (λx=>decide (x<v))=0:=by rw[List.countP_eq_zero];intro a ha;obtain⟨j,hj⟩:=List.mem_iff_getElem?.1 ha;rw[List.getElem?_drop] at hj;have:=aIS h hj C;simp;omega
 omega
theorem aLT(h:(kI l)[k]?=β v):k<(kI l).countP (λx=>decide (x<=v)):=by
 rw[<-(uV (k+1) (kI l)),List.countP_append];have h1:((kI l).take (k+1)).countP (λx=>decide (x<=v))=k+1:=by
  have h2:((kI l).take (k+1)).countP (λx=>decide (x<=v))=((kI l).take (k+1)).length:=by
   rw[List.countP_eq_length];intro a ha;obtain⟨j,hj⟩:=List.mem_iff_getElem?.1 ha;have hj':j<k+1:=by grind
   rw[List.getElem?_take_of_lt hj'] at hj;exact Xt (aIS hj h C)
  grind
 omega
theorem aIg(h:(kI (nP f n))[k]?=β v):vH f n k v:=by
 have e1:cl f n v=(kI (nP f n)).countP (λx=>decide (x<v)):=by rw[(OY _).countP_eq];exact WH f (λx=>decide (x<v)) n
 have e2:cl f n v+ce f n v=(kI (nP f n)).countP (λx=>decide (x<=v)):=by rw[(OY _).countP_eq,ZH];exact WH f (λx=>decide (x<=v)) n
 exact⟨by rw[e1];exact aLS h,by rw[e2];exact aLT h⟩
variable{a:Int}
theorem aEm{b}(h1:(kI (nP f n))[(n-1)/3]?=β a)(h2:(kI (nP f n))[n-1-(n-1)/3]?=β b):R9 f n ((a+b)/2):=⟨a,b,aIg h1,aIg h2,rfl⟩
theorem aNF(x y):x+y=2*(x &&& y)+(x^^^y):=by
 induction x using Nat.strongRecOn generalizing y with
 |_ x ih=>
  rcases Bj x with h|h
  .subst h;simp
  have a1:(x &&& y)/2=x/2 &&& y/2:=Nat.and_div_two;have a2:(x^^^y)/2=x/2^^^y/2:=Nat.xor_div_two;have b1:(x &&& y)%2=x%2 &&& y%2:=Nat.and_mod_two_pow (n:=1);have b2:(x^^^y)%2=x%2^^^y%2:=Nat.xor_mod_two_pow (n:=1);grind
theorem aKm(A B:BitVec 64):A.toInt+B.toInt=2*(A &&& B).toInt+(A^^^B).toInt:=by have h:=aNF A.toNat B.toNat;rw[BitVec.toInt_eq_msb_cond,BitVec.toInt_eq_msb_cond,BitVec.toInt_eq_msb_cond,BitVec.toInt_eq_msb_cond,BitVec.msb_and,BitVec.msb_xor];grind
theorem aCu(A:BitVec 64):IntKind.i64.wrap A.toNat=A.toInt:=by rw[Db,BitVec.toInt_eq_toNat_cond];omega
theorem aHR(h:U a):(γ 64 a).toInt=a:=by obtain⟨h1,h2⟩:=h;grind
theorem aHn{b}(ha:U a)(hb:U b):∃p q,ν .and .i64 a b=p/\ν .xor .i64 a b=q/\U p/\U q/\p+q/2=(a+b)/2:=by
 refine⟨(γ 64 a &&& γ 64 b).toInt,(γ 64 a^^^γ 64 b).toInt,?_,?_,?_,?_,?_⟩
 .exact aCu _
 .exact aCu _
 .have h1:=BitVec.le_toInt (γ 64 a &&& γ 64 b);have h2:=BitVec.toInt_lt (x:=γ 64 a &&& γ 64 b);exact⟨C,C⟩
 .have h1:=BitVec.le_toInt (γ 64 a^^^γ 64 b);have h2:=BitVec.toInt_lt (x:=γ 64 a^^^γ 64 b);exact⟨C,C⟩
 have h:=aKm (γ 64 a) (γ 64 b);rw[aHR ha,aHR hb] at h;omega
def cS(x:Nat):Nat:=if x%2=0 then x/2 else x/2^^^3988292384
def cN:Nat->Nat->Nat
 |0,x=>x
 |n+1,x=>cN n (cS x)
def cF(r:Nat)(g:Nat->Nat):Nat->Nat
 |0=>r
 |n+1=>cN 8 (cF r g n^^^g n)
def cV(g:Nat->Nat):Nat->Nat
 |0=>0
 |n+1=>cV g n+g n*2^(8*n)
theorem aCv(x y):(x^^^y)/2=(x/2)^^^(y/2):=by apply Nat.eq_of_testBit_eq;intro i;grind
theorem aSS(x y):(x^^^y)%2=(x%2+y%2)%2:=by have h:=Nat.testBit_xor (i:=0);grind
theorem aRd(x y):cS (x^^^y)=cS x^^^cS y:=by unfold cS;rw[aCv,aSS];grind
theorem aTA(n):∀(x y),cN n (x^^^y)=cN n x^^^cN n y:=by
 induction n with
 |zero=>intro x y;rfl
 |succ n ih=>intro x y;show cN n (cS (x^^^y))=_;rw[aRd,ih];rfl
theorem aRb(n):∀(m x),cN (n+m) x=cN m (cN n x):=by
 induction n with
 |zero=>intro m x;rw[Ah];rfl
 |succ n ih=>intro m x;rw[Nat.add_right_comm];show cN (n+m) (cS x)=_;rw[ih];rfl
theorem aMT(n):∀x,cN n (x*2^n)=x:=by
 induction n with
 |zero=>intro x;show x*1=x;omega
 |succ n ih=>
  intro x;show cN n (cS (x*2^(n+1)))=x;have h:cS (x*2^(n+1))=x*2^n:=by
   have e:x*2^(n+1)=(x*2^n)*2:=by rw[Cg,Cu]
   unfold cS;grind
  rw[h,ih]
variable{x:Nat}
theorem aMU(h:x<4294967296):cS x<4294967296:=by
 unfold cS;split
 .omega
 exact wE (n:=32) C Yc
theorem aEU:∀{x},x<4294967296->cN n x<4294967296:=by
 induction n with
 |zero=>intro x h;exact h
 |succ n ih=>intro x h;exact ih (aMU h)
theorem aNc(n)(h:x<2^n)(y):x+y*2^n=x^^^(y*2^n):=by
 apply Nat.eq_of_testBit_eq;intro i;rw[Nat.testBit_xor,Ey,Dk,Nat.testBit_two_pow_mul_add _ h,Nat.testBit_two_pow_mul];by_cases hi:i<n
 .grind
 have:x.testBit i=false:=Nat.testBit_lt_two_pow (Dz h (Ej C C));grind
theorem aJH(r c):cN 8 (r^^^c)=cN 8 (r%256^^^c)^^^(r/256):=by
 have e:r^^^c=(r%256^^^c)^^^((r/256)*2^8):=by have h:=aNc (x:=r%256) 8 C (r/256);grind
 rw[e,aTA,aMT]
variable{g:Nat->Nat}
theorem aMS{r}(hr:r<4294967296)(hg:∀i,g i<256)(n):cF r g n<4294967296:=by
 induction n with
 |zero=>exact hr
 |succ n ih=>exact aEU (wE (n:=32) ih (by have:=hg n;omega))
theorem aJI(r){h:Nat->Nat}(n)(e:∀i,i<n->g i=h i):cF r g n=cF r h n:=by
 induction n with
 |zero=>rfl
 |succ n ih=>show cN 8 (cF r g n^^^g n)=cN 8 (cF r h n^^^h n);grind
def bt(v:Int)(n i:Nat):Nat:=(v/256^(n-1-i)%256).toNat
theorem aAa(v)(n i):(bt v n i)=v/256^(n-1-i)%256:=by unfold bt;omega
theorem aSU(v)(n i):bt v n i<256:=by unfold bt;omega
theorem aNN(v)(k):(bt v (k+1) 0)=v/256^k%256:=by rw[aAa];rfl
theorem aNO(v)(k i):bt v (k+1) (i+1)=bt v k i:=by unfold bt;grind
theorem DI(k):(0:Int)<256^k:=Int.pow_pos Yc
theorem aAl(v:Int)(k):v/256^k/256=v/256^(k+1):=by rw[Mh (Ba (DI k)),Bw]
def vn(g:Nat->Nat):Nat->Nat
 |0=>0
 |k+1=>vn g k*256+g k
theorem FI(hg:∀i,g i<256)(k):vn g k<256^k:=by
 induction k with
 |zero=>show 0<1;omega
 |succ k ih=>have:=hg k;show vn g k*256+g k<256^(k+1);omega
theorem aCo{f:Nat->Nat}(h:∀i,i<k->g i=f i):vn g k=vn f k:=by
 induction k with
 |zero=>rfl
 |succ k ih=>show vn g k*256+g k=vn f k*256+f k;grind
theorem aFd(u m:Int)(hm:0<m):u%(m*256)=u/256%m*256+u%256:=by
 have h1:=(Fz u 256).symm;have h2:=Fz (u/256) m;have h3:=Fb (u/256) (Int.ne_of_gt hm);have h4:=Fe (u/256) hm;obtain⟨q,hq⟩:=wZ (u/256/m);obtain⟨r,hr⟩:=wZ (u/256%m);obtain⟨s,hs⟩:=wZ (u%256);rw[<-hr] at h3 h4 ⊢;rw[<-hs] at h1 ⊢;have e:u=(r*256+s)+m*256*q:=by grind
 rw[e,Mi];apply Int.emod_eq_of_lt
 .omega
 omega
theorem aTq(v)(n k)(hk:k<=n):(vn (bt v n) k)=v/256^(n-k)%256^k:=by
 induction k with
 |zero=>simp[vn,Int.emod_one]
 |succ k ih=>show ((vn (bt v n) k*256+bt v n k:Nat):Int)=_;rw[yJ,gG,(ih C),aAa,show n-1-k=n-(k+1) by omega,Bw,aFd _ _ (DI k),aAl,show n-(k+1)+1=n-k by omega];rfl
theorem XY(v)(n):(vn (bt v n) n)=v%256^n:=by rw[aTq v n n (Xr _),Gh,Int.pow_zero,Int.ediv_one]
def sg(v:Nat):Int:=if v<9223372036854775808 then v else v-18446744073709551616
theorem aSy{v}(h:v<18446744073709551616):U (sg v):=by unfold sg U;split<;>omega
theorem aTo(h:U v):sg (vn (bt v 8) 8)=v:=by have e:=XY v 8;unfold U at h;unfold sg;split<;>omega
def wrongM(K F R:Int)(n:Nat):Int:=
 if K<1\/5<K then 4 else if F<0\/3<F\/R<0\/2147483647<R then 3 else if 24<n then 6 else 0
theorem oI{K F R}(h:wrongM K F R n=0):1<=K/\K<=5/\0<=F/\F<=3/\0<=R/\R<=2147483647/\n<=24:=by unfold wrongM at h;omega
def enF(K F R:Int)(n:Nat)(f:Nat->Int)(i:Nat):Nat:=
 if i=0 then 87 else if i=1 then (K%256).toNat else if i=2 then (F%256).toNat else if i<7 then bt R 4 (i-3) else if i=7 then n%256 else bt (f ((i-8)/8)) 8 ((i-8)%8)
theorem aAn(K F R)(n)f(i):enF K F R n f i<256:=by grind [enF,aSU]
theorem aDY(K F R)(n)f(j k)(hk:k<8):enF K F R n f (8+8*j+k)=bt (f j) 8 k:=by grind [enF]
def dR(g:Nat->Nat):Nat:=vn (λi=>g (3+i)) 4
def dV(g:Nat->Nat)(i:Nat):Int:=sg (vn (λk=>g (8+8*i+k)) 8)
theorem aRl(hg:∀i,g i<256)(i):U (dV g i):=aSy (Nat.lt_of_lt_of_eq (FI (λk=>hg _) 8) Yc)
theorem aMV(hg:∀i,g i<256):dR g<4294967296:=Nat.lt_of_lt_of_eq (FI (λk=>hg _) 4) Yc
theorem aGo{K F R}(h0:0<=R)(h1:R<=2147483647)(h:∀i,i<8+8*n->g i=enF K F R n f i):(dR g)=R:=by have e:dR g=vn (bt R 4) 4:=aCo (λi hi=>by rw[h (3+i) C];unfold enF;rw[δ C,δ C,δ C,ι C,show 3+i-3=i by omega]);rw[e,XY R 4,show (256:Int)^4=4294967296 by decide];omega
theorem aQV{K F R}(hf:∀i,U (f i))(h:∀i,i<8+8*n->g i=enF K F R n f i)(hj:j<n):dV g j=f j:=by unfold dV;rw[(aCo (λk hk=>by rw[h (8+8*j+k) C,aDY K F R n f j k hk])),aTo (hf j)]
end
section
open Go.RowKit
structure Ms where
 K:Int
 F:Int
 R:Int
 L:D Int
structure Nd where
 id:Int
 fr:Int
 tn:Tn
 ax:Nat->St
 rl:Rl
 di:Nat->Nat->Int
 he:Nat->Int
 ag:Nat->Nat->Int
 us:Nat->Int
 dg:Int
 vX:Int
 vS:Bool
 vA:D Bool
def St.nil':St:=⟨0,0,0,0,0,false,0⟩
def St.beg0:St:=⟨0,0,4294967296,0,4294967296,false,0⟩
def dS:Nd:=⟨0,0,⟨0,0,0,0⟩,λ_=>St.nil',gF,λ_ _=>0,λ_=>0,λ_ _=>0,λ_=>0,0,0,false,[]⟩
def kQ:Ms:=⟨0,0,0,[]⟩
def kR(id:Int):Bool:=decide (id<0)||decide (3<id)
def jT(id:Int)(t:Tn):Nd:=if kR id then dS else { dS with id:=id,tn:=t,ax:=λ_=>St.beg0,rl:=beginR }
def A9(id:Int):Int:=if kR id then 3 else 0
def F8(n:Nd)(l:D Ms)(s:Nat)(kind:Int)(many:Nat):υ (D Int):=
 (l.find? λm:Ms=>decide (m.F=(s))&&decide (m.F≠n.id)&&decide (m.K=kind)&&decide (m.R=n.fr)&&decide (m.L.length=many)).map (·.L)
def senN(n:Nd)(frame:Int)(rd:Nat->Int):Nd:=if kR n.id then n else { n with fr:=frame,di:=λs a=>if s=n.id then rd a else 0,he:=λ_=>0 }
def mO(n:Nd)(frame:Int)(rd:Nat->Int):Ms:=if kR n.id then kQ else ⟨1,n.id,frame,[rd 0,rd 1,rd 2]⟩
def relD(n:Nd)(l:D Ms)(s a:Nat):Int:=match F8 n l s 1 3 with|some v=>v.getD a 0|none=>n.di s a
def relN(n:Nd)(l:D Ms):Nd:=if kR n.id then n else { n with di:=relD n l }
def relM(n:Nd)(l:D Ms):Ms:=if kR n.id then kQ else ⟨2,n.id,n.fr,(ο 12).map λi=>relD n l (i/3) (i%3)⟩
def kY(n:Nd)(l:D Ms)(i k many:Nat):Int:=match F8 n l i 2 many with|some v=>v.getD k 0|none=>0
def yS(n:Nd)(l:D Ms)(s:Nat)(h:Int)(k many:Nat):Int:=
 if s=n.id then h else WI h (kY n l (o1 n.id.toNat s) k many) (kY n l (o2 n.id.toNat s) k many)
def J7(l:D Int):Int:=if 1<=l.length/\l.length<=64 then ((kI l).getD ((l.length-1)/3) 0+(kI l).getD (l.length-1-(l.length-1)/3) 0)/2 else 0
theorem aEl{f:Nat->Int}{n}{m}(h1:1<=n)(h2:n<=64)(h:R9 f n m):m=J7 (nP f n):=by
 have el:(nP f n).length=n:=by unfold nP;simp
 have es:(kI (nP f n)).length=n:=by unfold kI;rw[List.length_mergeSort,el]
 unfold J7;rw[el,ι ⟨h1,h2⟩];have g:∀k,k<n->(kI (nP f n))[k]?=β ((kI (nP f n)).getD k 0):=λk hk=>by grind
 exact aOO h (aEm (g _ C) (g _ C))
def qE(b:Nat->Bool)(f:Nat->Int):Nat->D Int
 |0=>[]
 |k+1=>qE b f k++(if b k then [f k] else [])
theorem aAS(b:Nat->Bool)f(k):(qE b f k).length<=k:=by
 induction k with
 |zero=>exact Xr 0
 |succ k ih=>show (qE b f k++_).length<=_;grind
def TS(v:Nat->Int)(b:Nat->Bool):Nat->Int
 |0=>0
 |k+1=>if b k=true/\(vk b v (TS v b k) 4<vk b v (v k) 4\/ti b k=0) then v k else TS v b k
theorem aEf(v:Nat->Int)(b:Nat->Bool):∀k,xG v b k (TS v b k)
 |0=>IW v b
 |k+1=>by
  have ih:=aEf v b k;show xG v b (k+1) (if _ then v k else TS v b k);cases hb:b k with
  |false=>rw[δ (by rintro⟨c,_⟩;exact ρ c Yc)];exact isV_out ih hb
  |true=>
   by_cases c:vk b v (TS v b k) 4<vk b v (v k) 4\/ti b k=0
   .rw[ι ⟨S,c⟩];exact NQ ih hb c
   rw[δ (λh=>c h.2)];exact IV ih (λh=>c (Aa h)) (λh=>c (T h))
theorem aJi{v:Nat->Int}{b:Nat->Bool}{X}(h:xG v b 4 X):X=TS v b 4:=aOy h (aEf v b 4)
def IP(b:Nat->Bool):Int:=(if b 0 then 1 else 0)+(if b 1 then 2 else 0)+(if b 2 then 4 else 0)+(if b 3 then 8 else 0)
def qX(f:Nat->Int):Nat->Int
 |0=>0
 |k+1=>wrap64 (wrap64 (8*qX f k)+f k)
def AJ(s:St):D Int:=[s.X,s.V,s.P00,s.P01,s.P11,if s.B then 1 else 0,s.M]
def qH(ax:Nat->St)(r:Rl):D Int:=AJ (ax 0)++AJ (ax 1)++AJ (ax 2)++[IP r.I,qX r.M 4,qX r.J 4]
theorem aEu(ax:Nat->St)(r):(qH ax r).length=24:=rfl
def zB(ax:Nat->St)(r:Rl)(i:Nat):Nat:=bt ((qH ax r).getD (i/8) 0) 8 (i%8)
def dgN(ax:Nat->St)(r:Rl):Int:=((4294967295-cF 4294967295 (zB ax r) 192:Nat))
def decG(n:Nd)(l:D Ms)(s a:Nat):Int:=yS n l s (n.di s a) (3*s+a) 12
def decU(n:Nd)(l:D Ms)(a:Nat):Int:=J7 (qE n.rl.I (λs=>decG n l s a) 4)
def decA(n:Nd)(l:D Ms)(a:Nat):St:=X9 (n.ax a) n.tn (decU n l a)
def decD(n:Nd)(l:D Ms):Int:=dgN (decA n l) n.rl
def uO(n:Nd)(l:D Ms):Nd:=if kR n.id then n else { n with ag:=decG n l,us:=decU n l,ax:=decA n l,dg:=decD n l,he:=λs=>if s=n.id then decD n l else n.he s }
def wS(n:Nd)(l:D Ms):Ms:=if kR n.id then kQ else ⟨3,n.id,n.fr,[decD n l]⟩
def pasH(n:Nd)(l:D Ms)(s:Nat):Int:=match F8 n l s 3 1 with|some v=>v.getD 0 0|none=>n.he s
def pasN(n:Nd)(l:D Ms):Nd:=if kR n.id then n else { n with he:=pasH n l }
def pasM(n:Nd)(l:D Ms):Ms:=if kR n.id then kQ else ⟨2,n.id,n.fr,(ο 4).map (pasH n l)⟩
def vM(n:Nd)(l:D Ms)(s:Nat):Int:=yS n l s (n.he s) s 4
def judX(n:Nd)(l:D Ms):Int:=TS (vM n l) n.rl.I 4
def judA(n:Nd)(l:D Ms)(i:Nat):Bool:=uE (vM n l) n.rl.I (judX n l) i
def judS(n:Nd)(l:D Ms):Bool:=JX (vM n l) n.rl.I (judX n l)
def judR(n:Nd)(l:D Ms):Rl:=if (stR n.rl (judS n l) 4 (judA n l)).2.2=0 then (stR n.rl (judS n l) 4 (judA n l)).1 else n.rl
def aTN(n:Nd)(l:D Ms):Nd:=if kR n.id then n else { n with vX:=judX n l,vS:=judS n l,vA:=(ο 4).map (judA n l),rl:=judR n l }
def uP(n:Nd)(l:D Ms):Ms:=if kR n.id then kQ else ⟨5,n.id,n.fr,qH n.ax (judR n l)⟩
def unA(v:D Int)(a:Nat):St:=⟨v.getD (7*a) 0,v.getD (7*a+1) 0,v.getD (7*a+2) 0,v.getD (7*a+3) 0,v.getD (7*a+4) 0,decide (0<v.getD (7*a+5) 0),v.getD (7*a+6) 0⟩
def unR(v:D Int):Rl:=⟨λi=>decide (v.getD 21 0/2^i%2=1),λi=>v.getD 22 0/8^(3-i)%8,λi=>v.getD 23 0/8^(3-i)%8⟩
def unOK(v:D Int):Bool:=
 (ο 3).all (λa=>decide (0<=v.getD (7*a+5) 0)&&decide (v.getD (7*a+5) 0<=1))&&decide (0<=v.getD 21 0)&&decide (v.getD 21 0<=15)&&decide (0<=v.getD 22 0)&&decide (v.getD 22 0<=4095)&&
  decide (0<=v.getD 23 0)&&decide (v.getD 23 0<=4095)&&mR (unR v)
def prs:D (Nat×Nat):=[(0,1),(0,2),(0,3),(1,2),(1,3),(2,3)]
def RO(n:Nd)(l:D Ms)(p:Nat×Nat):υ (D Int):=match F8 n l p.1 5 24,F8 n l p.2 5 24 with|some a,β b=>if a=b then β a else ζ|_,_=>ζ
def aEW(n:Nd)(l:D Ms):υ (D Int):=if n.vS=true/\n.vX≠n.dg then prs.findSome? (RO n l) else ζ
def gW(n:Nd)(l:D Ms):Nd:=if kR n.id then n else match aEW n l with|some v=>if unOK v then { n with ax:=unA v,rl:=unR v } else n|none=>n
end
end Go.Proofs.YthimcecbgpamdaaGreatDoor
