import Derived.Test.YthimcecbgpamdaaGreatNear89
set_option maxHeartbeats 4000000
namespace Go.Proofs.YthimcecbgpamdaaGreat
open Go.RowKit
theorem xJ(w:World):∃w1,w1=(w.alloc (.cells #[.int .i64 0,.int .i64 0,.int .i64 0,.slice none 0 0] 67)).alloc (.cells #[.int .i64 0,.int .i64 0,.int .i64 0,.slice none 0 0] 67)/\MgAt w1 w.heap.size 0 0 0 (.slice none 0 0)/\MgAt w1 (w.heap.size+1) 0 0 0 (.slice none 0 0)/\Below w.heap.size w w1/\w1.heap.size=w.heap.size+1+1:=by
 refine⟨_,rfl,(MgAt.new w 0 0 0 _).below (bU _ _),?_,?_,?_⟩
 .have h:=MgAt.new (w.alloc (.cells #[.int .i64 0,.int .i64 0,.int .i64 0,.slice none 0 0] 67)) 0 0 0 (.slice none 0 0);rw[dJ] at h;exact h
 .exact ((Below.refl _ _).alloc (Xr _) _).alloc (by rw[dJ];omega) _
 .rw[dJ,dJ]
theorem LK(ao:Option Addr)(len cap:Nat)(w:World)(h1:220<len):Calls Tryz.prog 42 #[.slice ao len cap] w λe w'=>e=.returned (.tuple #[gH 0 0 0 (.slice none 0 0),.int .i64 1])/\Below w.heap.size w w':=by
 obtain⟨w1,e1,_,_,k1,_⟩:=xJ w;have E1:=aB e1;have K1:=aB k1;clear e1 k1;have h1':(220:Int)<(len:Int):=Yo;go_enter Tryz.func42,Tryz.ntmps42
 go_wp2_with fail
 refine bodyPost_ret (v:=.tuple #[gH 0 0 0 (.slice none 0 0),.int .i64 1]) (by simp[results,Tryz.results42,go_sem,gH]) rfl ⟨rfl,?_⟩;rw[<-aA E1];exact aA K1
theorem JQ(ao:Option Addr)(len cap:Nat)(w:World)(h1:len<12):Calls Tryz.prog 42 #[.slice ao len cap] w λe w'=>e=.returned (.tuple #[gH 0 0 0 (.slice none 0 0),.int .i64 2])/\Below w.heap.size w w':=by
 obtain⟨w1,e1,_,_,k1,_⟩:=xJ w;have E1:=aB e1;have K1:=aB k1;clear e1 k1;go_enter Tryz.func42,Tryz.ntmps42
 go_wp2_with fail
 refine bodyPost_ret (v:=.tuple #[gH 0 0 0 (.slice none 0 0),.int .i64 2]) (by simp[results,Tryz.results42,go_sem,gH]) rfl ⟨rfl,?_⟩;rw[<-aA E1];exact aA K1
theorem LU(ao:Option Addr)(len cap:Nat)(g:Nat->Nat)(w:World)(h1:len<=220)(h2:12<=len)(hr:Rd w ao len (bF g))(h3:g 0≠87):Calls Tryz.prog 42 #[.slice ao len cap] w λe w'=>e=.returned (.tuple #[gH 0 0 0 (.slice none 0 0),.int .i64 2])/\Below w.heap.size w w':=by
 obtain⟨b,o,rfl,hc⟩:=hr Yo;obtain⟨w1,e1,_,_,k1,_⟩:=xJ w;have c0:w1.cell? ⟨b,o,none⟩=some (.int .u8 (g 0:Nat)):=aM (hc 0 Yo) k1;rw[e1] at c0;have hb:b<w.heap.size:=World.block_lt_of_cell? w ⟨b,o+0,none⟩ (hc 0 Yo);have t3:(((g 0:Nat):Int)!=87)=true:=by simp;omega
 have E1:=aB e1;have K1:=aB k1;clear e1 k1 hc hr;generalize g 0=x at*;go_enter Tryz.func42,Tryz.ntmps42
 go_wp2_with fail
 refine bodyPost_ret (v:=.tuple #[gH 0 0 0 (.slice none 0 0),.int .i64 2]) (by simp[results,Tryz.results42,go_sem,gH]) rfl ⟨rfl,?_⟩;rw[<-aA E1];exact aA K1
theorem PQ(ao:Option Addr)(len cap:Nat)(g:Nat->Nat)(w:World)(hg:∀i,g i<256)(hcap:len<=cap)(h1:len<=220)(h2:12<=len)(hr:Rd w ao len (bF g))(h3:g 0=87)(h4:¬oN g len):Calls Tryz.prog 42 #[.slice ao len cap] w λe w'=>e=.returned (.tuple #[gH 0 0 0 (.slice none 0 0),.int .i64 5])/\Below w.heap.size w w':=by
 obtain⟨b,o,rfl,hc⟩:=hr Yo;obtain⟨w1,e1,mA,mB,k1,s1⟩:=xJ w;have c0:w1.cell? ⟨b,o,none⟩=some (.int .u8 87):=by have:=aM (hc 0 Yo) k1;rw[show bF g 0=.int .u8 87 by unfold bF bV;rw[h3];rfl] at this;exact this
 rw[e1] at c0;have hb:b<w.heap.size:=World.block_lt_of_cell? w ⟨b,o+0,none⟩ (hc 0 Yo);have E1:=aB e1;have MA:=aB mA;have MB:=aB mB;have K1:=aB k1;have S1:=aB s1;have HC:=aB hc;have HR:=aB hr;have HG:=aB hg;clear e1 mA mB k1 s1 hc hr hg;go_enter Tryz.func42,Tryz.ntmps42
 go_wp2_with fail
 rw[<-aA E1];clear c0;refine (uV (some ⟨b,o,none⟩) len cap g _ (aA HG) Yo hcap ((aA HR).below (aA K1))).mono ?_;rintro e w2 ⟨v2,ok,rfl,iff2,_,_,k2⟩;have mA:=(aA MA).below k2;have mB:=(aA MB).below k2;have K2:=aB (show Below w.heap.size w w2 from (aA K1).trans (k2.mono (aA K1).size));have S2:=aB (show w.heap.size+1+1<=w2.heap.size by have:=aA S1;have:=k2.size;omega);have hok:ok=false:=by cases ok;rfl;exact absurd (iff2.1 rfl) h4
 subst hok;clear k2 iff2 MA MB K1 S1;have b0:=mB.cell0;have b1:=mB.cell1;have b2:=mB.cell2;have b3:=mB.cell3;have a0:=mA.cell0;have a1:=mA.cell1;have a2:=mA.cell2;have a3:=mA.cell3;have f0:=mA.free 0;have f1:=mA.free 1;have f2:=mA.free 2;have f3:=mA.free 3;have MA:=aB mA;clear mA mB;go_wp2_with fail
 obtain⟨w3,e3,m3,k3⟩:=(aA MA).put 0 0 0 (.slice none 0 0);rw[<-e3];have p0:=m3.cell0;have p1:=m3.cell1;have p2:=m3.cell2;have p3:=m3.cell3;have F3:=aB (aF (aA K2) k3 (Xr _) (aA K2).size);clear e3 m3 k3 b0 b1 b2 b3 a0 a1 a2 a3 f0 f1 f2 f3;refine bodyPost_ret (v:=.tuple #[gH 0 0 0 (.slice none 0 0),.int .i64 5]) (by simp[results,Tryz.results42,go_sem,gH,p0,p1,p2,p3]) rfl ⟨rfl,aA F3⟩
theorem LX(ao:Option Addr)(len cap:Nat)(g:Nat->Nat)(w:World)(hg:∀i,g i<256)(hcap:len<=cap)(h1:len<=220)(h2:12<=len)(hr:Rd w ao len (bF g))(h3:g 0=87)(h4:oN g len)(h5:24<g 7):Calls Tryz.prog 42 #[.slice ao len cap] w λe w'=>e=.returned (.tuple #[gH 0 0 0 (.slice none 0 0),.int .i64 6])/\Below w.heap.size w w':=by
 obtain⟨b,o,rfl,hc⟩:=hr Yo;obtain⟨w1,e1,mA,mB,k1,s1⟩:=xJ w;have c0:w1.cell? ⟨b,o,none⟩=some (.int .u8 87):=by have:=aM (hc 0 Yo) k1;rw[show bF g 0=.int .u8 87 by unfold bF bV;rw[h3];rfl] at this;exact this
 rw[e1] at c0;have hb:b<w.heap.size:=World.block_lt_of_cell? w ⟨b,o+0,none⟩ (hc 0 Yo);have E1:=aB e1;have MA:=aB mA;have MB:=aB mB;have K1:=aB k1;have S1:=aB s1;have HC:=aB hc;have HR:=aB hr;have HG:=aB hg;clear e1 mA mB k1 s1 hc hr hg;go_enter Tryz.func42,Tryz.ntmps42
 go_wp2_with fail
 rw[<-aA E1];clear c0;refine (uV (some ⟨b,o,none⟩) len cap g _ (aA HG) Yo hcap ((aA HR).below (aA K1))).mono ?_;rintro e w2 ⟨v2,ok,rfl,iff2,_,_,k2⟩;have mA:=(aA MA).below k2;have mB:=(aA MB).below k2;have K2:=aB (show Below w.heap.size w w2 from (aA K1).trans (k2.mono (aA K1).size));have S2:=aB (show w.heap.size+1+1<=w2.heap.size by have:=aA S1;have:=k2.size;omega);have hok:ok=true:=iff2.2 h4;subst hok;clear k2 iff2 MA MB K1 S1;have c7:w2.cell? ⟨b,o+7,none⟩=some (.int .u8 (g 7:Nat)):=aM (aA HC 7 Yo) (aA K2);have hx7:g 7<256:=aA HG 7;have h5':(24:Int)<((g 7:Nat):Int):=Yo;clear HC HG HR;generalize g 7=x at*;have b0:=mB.cell0;have b1:=mB.cell1;have b2:=mB.cell2;have b3:=mB.cell3;have a0:=mA.cell0;have a1:=mA.cell1;have a2:=mA.cell2;have a3:=mA.cell3;have f0:=mA.free 0;have f1:=mA.free 1;have f2:=mA.free 2;have f3:=mA.free 3;have MA:=aB mA;clear mA mB;go_wp2_with fail
 obtain⟨w3,e3,m3,k3⟩:=(aA MA).put 0 0 0 (.slice none 0 0);rw[<-e3];have p0:=m3.cell0;have p1:=m3.cell1;have p2:=m3.cell2;have p3:=m3.cell3;have F3:=aB (aF (aA K2) k3 (Xr _) (aA K2).size);clear e3 m3 k3 b0 b1 b2 b3 a0 a1 a2 a3 f0 f1 f2 f3;refine bodyPost_ret (v:=.tuple #[gH 0 0 0 (.slice none 0 0),.int .i64 6]) (by simp[results,Tryz.results42,go_sem,gH,p0,p1,p2,p3]) rfl ⟨rfl,aA F3⟩
theorem JP(ao:Option Addr)(len cap:Nat)(g:Nat->Nat)(w:World)(hg:∀i,g i<256)(hcap:len<=cap)(h1:len<=220)(h2:12<=len)(hr:Rd w ao len (bF g))(h3:g 0=87)(h4:oN g len)(h5:g 7<=24)(h6:len≠12+8*g 7):Calls Tryz.prog 42 #[.slice ao len cap] w λe w'=>e=.returned (.tuple #[gH 0 0 0 (.slice none 0 0),.int .i64 2])/\Below w.heap.size w w':=by
 obtain⟨b,o,rfl,hc⟩:=hr Yo;obtain⟨w1,e1,mA,mB,k1,s1⟩:=xJ w;have c0:w1.cell? ⟨b,o,none⟩=some (.int .u8 87):=by have:=aM (hc 0 Yo) k1;rw[show bF g 0=.int .u8 87 by unfold bF bV;rw[h3];rfl] at this;exact this
 rw[e1] at c0;have hb:b<w.heap.size:=World.block_lt_of_cell? w ⟨b,o+0,none⟩ (hc 0 Yo);have E1:=aB e1;have MA:=aB mA;have MB:=aB mB;have K1:=aB k1;have S1:=aB s1;have HC:=aB hc;have HR:=aB hr;have HG:=aB hg;clear e1 mA mB k1 s1 hc hr hg;go_enter Tryz.func42,Tryz.ntmps42
 go_wp2_with fail
 rw[<-aA E1];clear c0;refine (uV (some ⟨b,o,none⟩) len cap g _ (aA HG) Yo hcap ((aA HR).below (aA K1))).mono ?_;rintro e w2 ⟨v2,ok,rfl,iff2,_,_,k2⟩;have mA:=(aA MA).below k2;have mB:=(aA MB).below k2;have K2:=aB (show Below w.heap.size w w2 from (aA K1).trans (k2.mono (aA K1).size));have S2:=aB (show w.heap.size+1+1<=w2.heap.size by have:=aA S1;have:=k2.size;omega);have hok:ok=true:=iff2.2 h4;subst hok;clear k2 iff2 MA MB K1 S1;have c7:w2.cell? ⟨b,o+7,none⟩=some (.int .u8 (g 7:Nat)):=aM (aA HC 7 Yo) (aA K2);have hx7:g 7<256:=aA HG 7;clear HC HG HR h3 h4;generalize g 7=x at*;have t6:(((len:Nat):Int)!=12+8*(x:Int))=true:=by simp;omega
 have b0:=mB.cell0;have b1:=mB.cell1;have b2:=mB.cell2;have b3:=mB.cell3;have a0:=mA.cell0;have a1:=mA.cell1;have a2:=mA.cell2;have a3:=mA.cell3;have f0:=mA.free 0;have f1:=mA.free 1;have f2:=mA.free 2;have f3:=mA.free 3;have MA:=aB mA;clear mA mB;go_wp2_with fail
 obtain⟨w3,e3,m3,k3⟩:=(aA MA).put 0 0 0 (.slice none 0 0);rw[<-e3];have p0:=m3.cell0;have p1:=m3.cell1;have p2:=m3.cell2;have p3:=m3.cell3;have F3:=aB (aF (aA K2) k3 (Xr _) (aA K2).size);clear e3 m3 k3 b0 b1 b2 b3 a0 a1 a2 a3 f0 f1 f2 f3;refine bodyPost_ret (v:=.tuple #[gH 0 0 0 (.slice none 0 0),.int .i64 2]) (by simp[results,Tryz.results42,go_sem,gH,p0,p1,p2,p3]) rfl ⟨rfl,aA F3⟩
variable{o:Oper}{f:Operand->Value}
theorem rH(x:Operand)(ho:o.op=.convert 5 3 x){v:Nat}(hx:f x=bV v)(hv:v<256)(w:World):(execOp f o).run Tryz.prog w=.ok (.value (.int .i64 (v:Nat))) w:=by
 unfold bV at hx;unfold execOp;rw[ho];dsimp only;rw[hx];go_simp
 rw[IntKind.wrap_i64];omega
variable{v:Int}{w:World}{a:Addr}
theorem aEP(x:Operand)(ho:o.op=.load 3 x)(hx:f x=.pointer (some a))(hc:w.cell? a=some (.int .i64 v)):(execOp f o).run Tryz.prog w=.ok (.value (.int .i64 v)) w:=Yg
variable{ao:Option Addr}
theorem aDS(x:Operand)(ho:o.op=.load 65 x){n c:Nat}(hx:f x=.pointer (some a))(hc:w.cell? a=some (.slice ao n c)):(execOp f o).run Tryz.prog w=.ok (.value (.slice ao n c)) w:=Yg
variable{b:Nat}
theorem yR(x:Operand)(i:Nat)(ho:o.op=.fieldAddr 67 x i)(hx:f x=.pointer (some ⟨b,0,none⟩))(hi:i<4)(w:World):(execOp f o).run Tryz.prog w=.ok (.value (.pointer (some ⟨b,i,none⟩))) w:=by
 have:i=0\/i=1\/i=2\/i=3:=Yo;unfold execOp;rw[ho];dsimp only;rw[hx];rcases this with rfl|rfl|rfl|rfl<;>go_simp
theorem aHx(x y:Operand)(ho:o.op=.binOp .mul 3 x y 3){u:Int}(hx:f x=.int .i64 u)(hy:f y=.int .i64 v)(h1: -9223372036854775808<=u*v)(h2:u*v<=9223372036854775807)(w:World):(execOp f o).run Tryz.prog w=.ok (.value (.int .i64 (u*v))) w:=by
 unfold execOp;rw[ho];dsimp only;rw[hx,hy];go_simp
 generalize u*v=q at*;rw[IntKind.wrap_i64];omega
theorem aHC(x y:Operand)(ho:o.op=.binOp .add 3 x y 3){u:Int}(hx:f x=.int .i64 u)(hy:f y=.int .i64 v)(h1: -9223372036854775808<=u+v)(h2:u+v<=9223372036854775807)(w:World):(execOp f o).run Tryz.prog w=.ok (.value (.int .i64 (u+v))) w:=by
 unfold execOp;rw[ho];dsimp only;rw[hx,hy];go_simp
 rw[IntKind.wrap_i64];omega
variable{Q:Exit->Act->World->Prop}{K:Act->World->Prop}{a:Act}
theorem aEH(w:World)(x y:Operand)(ho:o.op=.store 3 x y){ad:Addr}(hx:a.eval x=.pointer (some ad))(hy:a.eval y=.int .i64 v){u:Value}(hc:w.cell? ad=some u)(hf:w.frozen? ad=false)(hd:o.dst=none)(h:K a (w.setCell ad (.int .i64 v))):WpI Tryz.prog o a w K Q:=by
 refine⟨?_⟩;unfold Oper.wp execOp;rw[ho];dsimp only;rw[hx,hy];go_simp
 exact h
theorem YE(x y:Operand)(ho:o.op=.build 67 #[(0,x),(1,y)]){u:Int}(hx:f x=.int .i64 u)(hy:f y=.int .i64 v)(w:World):(execOp f o).run Tryz.prog w=.ok (.value (gH u v 0 (.slice none 0 0))) w:=by
 unfold execOp;rw[ho];go_simp
 rfl
theorem BU(w:World)(ho:o.op=.alloc 67)(h:∀w',MgAt w' w.heap.size 0 0 0 (.slice none 0 0)->Below w.heap.size w w'->w'.heap.size=w.heap.size+1->K (a.put o.dst (.pointer (some ⟨w.heap.size,0,none⟩))) w'):WpI Tryz.prog o a w K Q:=by
 refine⟨?_⟩;have hh:=h _ (MgAt.new w 0 0 0 (.slice none 0 0)) (bU _ _) (dJ _ _);unfold Oper.wp execOp;rw[ho];go_simp
 exact hh
variable{vo:Option Addr}
theorem aCW(w:World)(x y:Operand)(ho:o.op=.store 67 x y){k1 f1 r1 k f r:Int}{v1:Value}{vn vc:Nat}(hx:a.eval x=.pointer (some ⟨b,0,none⟩))(hy:a.eval y=gH k f r (.slice vo vn vc))(hm:MgAt w b k1 f1 r1 v1)(hd:o.dst=none)(h:∀w',MgAt w' b k f r (.slice vo vn vc)->Kept b w w'->K a w'):WpI Tryz.prog o a w K Q:=by
 refine⟨?_⟩;have c0:=hm.cell0;have c1:=hm.cell1;have c2:=hm.cell2;have c3:=hm.cell3;have f0:=hm.free 0;have f1:=hm.free 1;have f2:=hm.free 2;have f3:=hm.free 3;obtain⟨w',e,m,kp⟩:=hm.put k f r (.slice vo vn vc);have hh:=h w' m kp;rw[e] at hh;clear hm m kp h e;unfold gH at hy;unfold Oper.wp execOp;rw[ho];dsimp only;rw[hx,hy];go_simp
 exact hh
def Cb2(b p q x y:Nat)(w:World):Prop:=w.cell? ⟨b,p,none⟩=some (bV x)/\w.cell? ⟨b,q,none⟩=some (bV y)
theorem Cb2.below{p q x y:Nat}{w':World}(h:Cb2 b p q x y w)(k:Below w.heap.size w w'):Cb2 b p q x y w':=⟨aM h.1 k,aM h.2 k⟩
theorem Cb2.kept{p q x y z:Nat}{w':World}(h:Cb2 b p q x y w)(k:Kept z w w')(hz:b≠z):Cb2 b p q x y w':=⟨zD h.1 k hz,zD h.2 k hz⟩
def Cmb(m b p:Nat)(x:Int)(y:Nat)(w:World):Prop:=w.cell? ⟨m,2,none⟩=some (.int .i64 x)/\w.cell? ⟨b,p,none⟩=some (bV y)
theorem aKe(v:Nat)(h:v<18446744073709551616):IntKind.i64.wrap (v:Int)=sg v:=by rw[IntKind.wrap_i64];unfold sg;split<;>omega
set_option maxRecDepth 100000 in
theorem PO(ao:Option Addr)(len cap:Nat)(g:Nat->Nat)(w:World)(hg:∀i,g i<256)(hcap:len<=cap)(h1:len<=220)(h2:12<=len)(hr:Rd w ao len (bF g))(h3:g 0=87)(h4:oN g len)(h5:g 7<=24)(h6:len=12+8*g 7):Calls Tryz.prog 42 #[.slice ao len cap] w λe w'=>∃(E:Int) (v:Value),E=bW (g 1:Nat) (g 2:Nat) (dR g:Nat) (g 7)/\e=.returned (.tuple #[gH (dN E (g 1):Nat) (dN E (g 2):Nat) (dN E (dR g):Nat) v,.int .i64 E])/\w'.ownsRow w.heap.size 3 1 v (dN E (g 7)) (rowV (iF (dV g)) (dN E (g 7)))/\Below w.heap.size w w':=by
 have H6:=aB h6;clear h6;obtain⟨b,o,rfl,hc⟩:=hr Yo;obtain⟨w1,e1,mA,mB,k1,s1⟩:=xJ w;have c0:w1.cell? ⟨b,o,none⟩=some (.int .u8 87):=by have:=aM (hc 0 Yo) k1;rw[show bF g 0=.int .u8 87 by unfold bF bV;rw[h3];rfl] at this;exact this
 rw[e1] at c0;have hb:b<w.heap.size:=World.block_lt_of_cell? w ⟨b,o+0,none⟩ (hc 0 Yo);have E1:=aB e1;have MA:=aB mA;have MB:=aB mB;have K1:=aB k1;have S1:=aB s1;have HC:=aB hc;have HR:=aB hr;have HG:=aB hg;clear e1 mA mB k1 s1 hc hr hg;go_enter Tryz.func42,Tryz.ntmps42
 go_wp2_with fail
 rw[<-aA E1];clear c0;refine (uV (some ⟨b,o,none⟩) len cap g _ (aA HG) Yo hcap ((aA HR).below (aA K1))).mono ?_;rintro e w2 ⟨v2,ok,rfl,iff2,_,_,k2⟩;have mA:=(aA MA).below k2;have mB:=(aA MB).below k2;have K2:=aB (show Below w.heap.size w w2 from (aA K1).trans (k2.mono (aA K1).size));have S2:=aB (show w.heap.size+1+1<=w2.heap.size by have:=aA S1;have:=k2.size;omega);have hok:ok=true:=iff2.2 h4;subst hok;clear k2 iff2 MA MB K1 S1;have c7:w2.cell? ⟨b,o+7,none⟩=some (.int .u8 (g 7:Nat)):=aM (aA HC 7 Yo) (aA K2);have hx7:g 7<256:=aA HG 7;obtain⟨n,en⟩:∃n,g 7=n:=⟨_,rfl⟩;have EN:=aB en;have h6:=aA H6;rw[en] at c7 h5 h6 hx7;have t6:(((len:Nat):Int)!=12+8*(n:Int))=false:=by rw[h6];simp
 have H7:=aB h6;clear h6 H6;have hS0:Cb2 b (o+1) (o+2) (g 1) (g 2) w2.drew:=⟨aM (w':=w2.drew) (aA HC 1 Yo) (aT (aA K2)),aM (w':=w2.drew) (aA HC 2 Yo) (aT (aA K2))⟩;obtain⟨x1,ex1⟩:∃x,g 1=x:=⟨_,rfl⟩;obtain⟨x2,ex2⟩:∃x,g 2=x:=⟨_,rfl⟩;have EX1:=aB ex1;have EX2:=aB ex2;rw[ex1,ex2] at hS0;have HS:=aB hS0;have Y1:=aB (show x1<256 by rw[<-ex1];exact aA HG 1);have Y2:=aB (show x2<256 by rw[<-ex2];exact aA HG 2);have MA:=aB mA;have MB:=aB mB;clear mA mB en ex1 ex2 HR h3 h4 hS0;go_wp2_with fail
 clear c7 t6;refine wp_leaves (λa0 a' w'=>(MgAt w' w2.heap.size (x1:Nat) (x2:Nat) 0 (.slice none 0 0)/\Below w2.heap.size w2 w'/\w2.heap.size+1<=w'.heap.size)/\a'=((((((((((a0.put (some 51) (.slice (some ⟨b,o,none⟩) len cap)).put (some 52) (.pointer (some ⟨b,o+1,none⟩))).put (some 53) (bV x1)).put (some 54) (.int .i64 (x1:Nat))).put (some 55) (.slice (some ⟨b,o,none⟩) len cap)).put (some 56) (.pointer (some ⟨b,o+2,none⟩))).put (some 57) (bV x2)).put (some 58) (.int .i64 (x2:Nat))).put (some 59) (gH (x1:Nat) (x2:Nat) 0 (.slice none 0 0))).put (some 8) (.pointer (some ⟨w2.heap.size,0,none⟩)))) ?reg ?rest
 case reg=>
  intro A eA;have b0:A.eval (.tmp 0)=.slice (some ⟨b,o,none⟩) len cap:=by rw[eA];rfl
  have hs:109<=A.tmps.size:=by rw[eA];exact Xu rfl
  have hS:=aA HS;clear eA;refine oJ (S:=Cb2 b (o+1) (o+2) x1 x2) (.rd 0 (.rd 1 (.rd 2 (.rd 3 (.rd 4 (.rd 5 (.rd 6 (.rd 7 (.rd 8 (.go 9 (.go 10 .fin))))))))))) [] Yl Yl ?_;refine bC (v:=(.slice (some ⟨b,o,none⟩) len cap)) rfl Yn Yw hS (λwx _=>dL (.tmp 0) rfl b0 wx) ?_;show SeqI _ _ _ _ _ _ (Act.put _ (some 51) _) _
  refine bC (v:=(.pointer (some ⟨b,o+1,none⟩))) rfl Yn Yw hS (λwx _=>lN (i:=1) (.tmp 51) (.const (.int .i64 1)) rfl Et rfl Yo wx) ?_;show SeqI _ _ _ _ _ _ (Act.put _ (some 52) _) _
  refine bC (v:=(bV x1)) rfl Yn Yw hS (λwx hx=>nA (.tmp 52) rfl Es hx.1) ?_;show SeqI _ _ _ _ _ _ (Act.put _ (some 53) _) _
  refine bC (v:=(.int .i64 (x1:Nat))) rfl Yn Yw hS (λwx _=>rH (.tmp 53) rfl Es (aA Y1) wx) ?_;show SeqI _ _ _ _ _ _ (Act.put _ (some 54) _) _
  refine bC (v:=(.slice (some ⟨b,o,none⟩) len cap)) rfl Yn Yw hS (λwx _=>dL (.tmp 0) rfl (Ex (Ex (Ex (Ex b0)))) wx) ?_;show SeqI _ _ _ _ _ _ (Act.put _ (some 55) _) _
  refine bC (v:=(.pointer (some ⟨b,o+2,none⟩))) rfl Yn Yw hS (λwx _=>lN (i:=2) (.tmp 55) (.const (.int .i64 2)) rfl Es rfl Yo wx) ?_;show SeqI _ _ _ _ _ _ (Act.put _ (some 56) _) _
  refine bC (v:=(bV x2)) rfl Yn Yw hS (λwx hx=>nA (.tmp 56) rfl Es hx.2) ?_;show SeqI _ _ _ _ _ _ (Act.put _ (some 57) _) _
  refine bC (v:=(.int .i64 (x2:Nat))) rfl Yn Yw hS (λwx _=>rH (.tmp 57) rfl Es (aA Y2) wx) ?_;show SeqI _ _ _ _ _ _ (Act.put _ (some 58) _) _
  refine bC (v:=(gH (x1:Nat) (x2:Nat) 0 (.slice none 0 0))) rfl Yn Yw hS (λwx _=>YE (.tmp 54) (.tmp 58) rfl (Ex (Ex (Ex (Ex Es)))) Es wx) ?_;show SeqI _ _ _ _ _ _ (Act.put _ (some 59) _) _
  refine pU rfl Yw (λK hK=>?_);refine BU _ rfl ?_;intro w3 m3 k3 s3;have hS3:=hS.below k3;refine hK _ _ (λ_=>hS3) ?_;clear hK K;show SeqI _ _ _ _ _ _ (Act.put _ (some 8) _) _
  refine pU rfl Yw (λK hK=>?_);refine aCW _ (.tmp 8) (.tmp 59) rfl Es (Ex Es) m3 rfl ?_;intro w4 m4 k4;have hbw:b≠w2.drew.heap.size:=by have:=aA S2;show b≠w2.heap.size;omega
  have hS4:=hS3.kept k4 hbw;refine hK _ _ (λ_=>hS4) ?_;clear hK K;refine oP ?_;exact⟨rfl,⟨m4,aF ((aT (Below.refl _ _)).trans k3) k4 (Xr _) (by rw[s3];exact Nat.le_succ _),by have:=k4.size;have e:w2.drew.heap.size=w2.heap.size:=rfl;omega⟩,rfl⟩
 case rest=>
  rintro a' w3 ⟨⟨m3,k3,s3⟩,rfl⟩;have M3:=aB m3;have S3:=aB s3;have K3:=aB (show Below w.heap.size w w3 from (aA K2).trans (k3.mono (aA K2).size));have A3:=aB ((aA MA).below k3);have B3:=aB ((aA MB).below k3);clear m3 k3 s3 MA MB HS
  go_frame
  go_wp2_with fail
  have SZ:=aB (aA S2);obtain⟨M,eM⟩:∃M,w2.heap.size=M:=⟨_,rfl⟩;rw[eM] at SZ M3 S3 ⊢;clear K2 S2 eM
  go_loopw [9] (λks wr=>∃k:Nat,ks=.int .i64 (3+k:Nat)/\k<=4/\MgAt wr M (x1:Nat) (x2:Nat) (vn (λi=>g (3+i)) k:Nat) (.slice none 0 0)/\MgAt wr w.heap.size 0 0 0 (.slice none 0 0)/\MgAt wr (w.heap.size+1) 0 0 0 (.slice none 0 0)/\M+1<=wr.heap.size/\Below w.heap.size w wr)
   (λks _=>7-(intOf ks).toNat)
  case atStart=>exact⟨0,rfl,Yo,aA M3,aA A3,aA B3,aA S3,aA K3⟩
  case round=>
   obtain⟨k,rfl,hk,mM,mA,mB,hs,hK⟩:=hrel
   rename World=>wr
   have RM:=aB mM;have RA:=aB mA;have RB:=aB mB;have RS:=aB hs;have RK:=aB hK;clear mM mA mB hs hK A3 B3 M3 S3 K3;by_cases hk4:k<4
   .have hu:vn (λi=>g (3+i)) k<16777216:=Nat.lt_of_lt_of_le (N9 (λi=>aA HG _) k) (by
     have:256^k<=256^3:=Nat.pow_le_pow_right Yo Yo;exact this)
    have hy:=aA HG (3+k);have hS0:Cmb M b (o+(3+k)) (vn (λi=>g (3+i)) k:Nat) (g (3+k)) wr.drew:=⟨(aA RM).cell2,aM (w':=wr.drew) (aA HC (3+k) (by have:=aA H7;omega)) (aT (aA RK))⟩;have EV:=aB (show vn (λi=>g (3+i)) (k+1)=vn (λi=>g (3+i)) k*256+g (3+k) from rfl);obtain⟨u,eu⟩:∃u,vn (λi=>g (3+i)) k=u:=⟨_,rfl⟩;obtain⟨y,ey⟩:∃y,g (3+k)=y:=⟨_,rfl⟩;rw[eu,ey] at hS0 EV;rw[eu] at hu RM;rw[ey] at hy;have HS:=aB hS0;clear hS0 eu ey;have hk':((3+k:Nat):Int)<7:=Yo;go_wp2_with fail
    refine wp_leaves (λa0 a' w'=>(MgAt w' M (x1:Nat) (x2:Nat) ((u:Nat)*256+(y:Nat)) (.slice none 0 0)/\Kept M wr w')/\a'=((((((((((a0.put (some 64) (.pointer (some ⟨M,2,none⟩))).put (some 65) (.int .i64 (u:Nat))).put (some 66) (.int .i64 ((u:Nat)*256))).put (some 67) (.slice (some ⟨b,o,none⟩) len cap)).put (some 68) (.int .i64 ((3+k:Nat):Int))).put (some 69) (.pointer (some ⟨b,o+(3+k),none⟩))).put (some 70) (bV y)).put (some 71) (.int .i64 (y:Nat))).put (some 72) (.int .i64 ((u:Nat)*256+(y:Nat)))).put (some 73) (.pointer (some ⟨M,2,none⟩)))) ?reg2 ?rest2
    case reg2=>
     intro A eA;have b0:A.eval (.tmp 0)=.slice (some ⟨b,o,none⟩) len cap:=by rw[eA];rfl
     have b8:A.eval (.tmp 8)=.pointer (some ⟨M,0,none⟩):=by rw[eA];rfl
     have b9:A.eval (.tmp 9)=.int .i64 ((3+k:Nat):Int):=by rw[eA];rfl
     have hs:109<=A.tmps.size:=by rw[eA];exact Xu rfl
     have hS:=aA HS;clear eA;refine oJ (S:=Cmb M b (o+(3+k)) (u:Nat) y) (.rd 0 (.rd 1 (.rd 2 (.rd 3 (.rd 4 (.rd 5 (.rd 6 (.rd 7 (.rd 8 (.rd 9 (.go 10 .fin))))))))))) [10] Yl Yl ?_;refine bC (v:=(.pointer (some ⟨M,2,none⟩))) rfl Yn Yw hS (λwx _=>yR (.tmp 8) 2 rfl b8 Yo wx) ?_;show SeqI _ _ _ _ _ _ (Act.put _ (some 64) _) _
     refine bC (v:=(.int .i64 (u:Nat))) rfl Yn Yw hS (λwx hx=>aEP (.tmp 64) rfl Et hx.1) ?_;show SeqI _ _ _ _ _ _ (Act.put _ (some 65) _) _
     refine bC (v:=(.int .i64 ((u:Nat)*256))) rfl Yn Yw hS (λwx _=>aHx (.tmp 65) (.const (.int .i64 256)) rfl Es rfl Yo Yo wx) ?_;show SeqI _ _ _ _ _ _ (Act.put _ (some 66) _) _
     refine bC (v:=(.slice (some ⟨b,o,none⟩) len cap)) rfl Yn Yw hS (λwx _=>dL (.tmp 0) rfl (Ex (Ex (Ex b0))) wx) ?_;show SeqI _ _ _ _ _ _ (Act.put _ (some 67) _) _
     refine bC (v:=(.int .i64 ((3+k:Nat):Int))) rfl Yn Yw hS (λwx _=>dL (.tmp 9) rfl (Ex (Ex (Ex (Ex b9)))) wx) ?_;show SeqI _ _ _ _ _ _ (Act.put _ (some 68) _) _
     refine bC (v:=(.pointer (some ⟨b,o+(3+k),none⟩))) rfl Yn Yw hS (λwx _=>lN (.tmp 67) (.tmp 68) rfl (Ex Es) Es (by have:=aA H7;omega) wx) ?_;show SeqI _ _ _ _ _ _ (Act.put _ (some 69) _) _
     refine bC (v:=(bV y)) rfl Yn Yw hS (λwx hx=>nA (.tmp 69) rfl Es hx.2) ?_;show SeqI _ _ _ _ _ _ (Act.put _ (some 70) _) _
     refine bC (v:=(.int .i64 (y:Nat))) rfl Yn Yw hS (λwx _=>rH (.tmp 70) rfl Es hy wx) ?_;show SeqI _ _ _ _ _ _ (Act.put _ (some 71) _) _
     refine bC (v:=(.int .i64 ((u:Nat)*256+(y:Nat)))) rfl Yn Yw hS (λwx _=>aHC (.tmp 66) (.tmp 71) rfl (Ex (Ex (Ex (Ex (Ex Es))))) Es Yo Yo wx) ?_;show SeqI _ _ _ _ _ _ (Act.put _ (some 72) _) _
     refine bC (v:=(.pointer (some ⟨M,2,none⟩))) rfl Yn Yw hS (λwx _=>yR (.tmp 8) 2 rfl (Ex (Ex (Ex (Ex (Ex (Ex (Ex (Ex (Ex b8))))))))) Yo wx) ?_;show SeqI _ _ _ _ _ _ (Act.put _ (some 73) _) _
     refine pU rfl Yw (λK hK=>?_);obtain⟨w4,e4,m4,k4⟩:=(aA RM).put2 ((u:Nat)*256+(y:Nat));have f4:wr.frozen? ⟨M,2,none⟩=false:=(aA RM).free 2;refine aEH _ (.tmp 73) (.tmp 72) rfl Es (Ex Es) (show wr.drew.cell? ⟨M,2,none⟩=some _ from hS.1) f4 rfl ?_;refine hK _ _ (λh=>absurd h Yc) ?_;clear hK K;refine oP<|⟨rfl,⟨?_,?_⟩,rfl⟩
     .obtain⟨w5,e5,m5,_⟩:=(show MgAt wr.drew M (x1:Nat) (x2:Nat) (u:Nat) (.slice none 0 0) from aA RM).put2 ((u:Nat)*256+(y:Nat));rw[<-e5];exact m5
     .exact (nE wr).trans (bG wr.drew M 2 _) (Or.inl rfl)
    case rest2=>
     rintro a' w4 ⟨⟨m4,k4⟩,rfl⟩;have M4:=aB (show MgAt w4 M (x1:Nat) (x2:Nat) (vn (λi=>g (3+i)) (k+1):Nat) (.slice none 0 0) by rw[aA EV];exact m4);have A4:=aB ((aA RA).kept k4 (by have:=aA SZ;omega));have B4:=aB ((aA RB).kept k4 (by have:=aA SZ;omega));have S4:=aB (show M+1<=w4.heap.size by have:=aA RS;have:=k4.size;omega);have K4:=aB (aF (aA RK) k4 (by have:=aA SZ;omega) (aA RK).size);clear m4 k4 RM RA RB RS RK HS EV
     go_frame
     go_wp2_with fail
     go_roundw
     case rel=>exact⟨k+1,by go_num,Yo,aA M4,aA A4,aA B4,aA S4,aA K4⟩
     case measure=>simp[intOf]<;>omega
   .have e4:k=4:=Yo;subst e4;have RM2:=aB (show MgAt wr M (x1:Nat) (x2:Nat) (dR g:Nat) (.slice none 0 0) from aA RM);clear RM;rw[show ((3+4:Nat):Int)=7 from rfl];go_wp2_with fail
    go_loopw [10,11,12] (λis _ _ wr=>∃(i c:Nat) (at_:Option Addr),is=.int .i64 i/\i<=n/\MgAt wr M (x1:Nat) (x2:Nat) (dR g:Nat) (.slice at_ i c)/\wr.ownsRow (M+1) 3 1 (.slice at_ i c) i (rowV (iF (dV g)) i)/\MgAt wr w.heap.size 0 0 0 (.slice none 0 0)/\MgAt wr (w.heap.size+1) 0 0 0 (.slice none 0 0)/\M+1<=wr.heap.size/\Below w.heap.size w wr)
     (λis _ _ _=>n-(intOf is).toNat)
    case atStart=>exact⟨0,0,none,rfl,Xz _,aA RM2,World.ownsRow_nil _ _ _ _,aA RA,aA RB,aA RS,aA RK⟩
    case round=>
     obtain⟨i,c,at_,rfl,hi,mM,ho,mA,mB,hs,hK⟩:=hrel
     rename World=>wq
     have c3:=mM.cell3;have f3:=mM.free 3;have QM:=aB mM;have QO:=aB ho;have QA:=aB mA;have QB:=aB mB;have QS:=aB hs;have QK:=aB hK;clear mM ho mA mB hs hK RM2 RA RB RS RK;by_cases hin:i<n
     .go_wp2_with fail
      go_loopw [11,12] (λvs ks wx=>wq=wx/\∃k:Nat,ks=.int .i64 k/\k<=8/\vs=.int .u64 (vn (λk=>g (8+8*i+k)) k:Nat)) (λ_ ks _=>8-(intOf ks).toNat)
      case atStart=>exact⟨rfl,0,rfl,Yo,rfl⟩
      case round=>
       obtain⟨rfl,k,rfl,hk,rfl⟩:=hrel;by_cases hk8:k<8
       .have hv:vn (λk=>g (8+8*i+k)) k<72057594037927936:=Nat.lt_of_lt_of_le (N9 (λi=>aA HG _) k) (by
         have:256^k<=256^7:=Nat.pow_le_pow_right Yo Yo;exact this)
        have hy:=aA HG (8+8*i+k);have cy:wq.cell? ⟨b,o+(8+8*i+k),none⟩=some (.int .u8 (g (8+8*i+k):Nat)):=aM (aA HC (8+8*i+k) (by have:=aA H7;omega)) (aA QK);have EV:=aB (show vn (λk=>g (8+8*i+k)) (k+1)=vn (λk=>g (8+8*i+k)) k*256+g (8+8*i+k) from rfl);obtain⟨v,ev⟩:∃v,vn (λk=>g (8+8*i+k)) k=v:=⟨_,rfl⟩;obtain⟨y,ey⟩:∃y,g (8+8*i+k)=y:=⟨_,rfl⟩;rw[ev] at hv EV ⊢;rw[ey] at hy EV cy;clear ev ey;have hp:8+8*i+k<len:=by have:=aA H7;omega
        go_wp2_with fail
        go_roundw
        case rel=>exact⟨trivial,k+1,by go_num,Yo,by rw[aA EV];go_num⟩
        case measure=>simp[intOf]<;>omega
       .have e8:k=8:=Yo;subst e8;have hv:vn (λk=>g (8+8*i+k)) 8<18446744073709551616:=Nat.lt_of_lt_of_eq (N9 (λi=>aA HG _) 8) Yc;have EV:=aB (show sg (vn (λk=>g (8+8*i+k)) 8)=dV g i from rfl);obtain⟨v,ev⟩:∃v,vn (λk=>g (8+8*i+k)) 8=v:=⟨_,rfl⟩;rw[ev] at hv EV ⊢;clear ev;have wv:=aKe v hv;rw[aA EV] at wv;obtain⟨x,ex⟩:∃x,dV g i=x:=⟨_,rfl⟩;rw[ex] at wv;have EX:=aB ex;have AL:=bU wq (.cells #[.int .i64 x] 3);have VL:=Vh.new wq 3 #[.int .i64 x] (λ_=>.int .i64 x) (by show 1<=maxLen;decide) (λi hi=>by
         have:i=0:=by simp at hi;omega
         subst this;rfl)
        have SL:=aB (show Sr (wq.alloc (.cells #[.int .i64 x] 3)) (some ⟨wq.heap.size,0,none⟩) 1 1 (λ_=>.int .i64 x) from Or.inr ⟨_,rfl,λi hi=>by rw[Addr.add_lit,Nat.zero_add];exact VL.cell hi⟩);have OL:=aB (mI (aA QO) AL);have ZL:=aB (show M+1<=(wq.alloc (.cells #[.int .i64 x] 3)).heap.size by have:=aA QS;have:=AL.size;omega);have ML:=aB ((aA QM).below AL);have PA:=aB ((aA QA).below AL);have PB:=aB ((aA QB).below AL);have KL:=aB ((aA QK).trans (AL.mono (aA QK).size));clear AL VL ex EV QM QO QA QB QS QK;go_wp2_with (at_builtin;refine wpList_joinI _ rfl _ _ rfl (M+1) (aA ZL) _ i (rowV (iF (dV g)) i) rfl (aA OL) (some ⟨wq.heap.size,0,none⟩) 1 1 (λ_=>.int .i64 x) rfl (aA SL) (λi _=>rfl) Yo ?_)
        intro v5 w5 o5 k5;rw[aEg (show iF (dV g) i=_ by unfold iF;rw[aA EX])] at o5;obtain⟨a5,c5,rfl⟩:=iJ o5;have m5:=(aA ML).under k5 Yo;clear c3 f3;have c3:=m5.cell3;have f3:=m5.free 3;have hsz:=aA SZ;obtain⟨w6,e6,m6,k6⟩:=m5.put3 (.slice a5 (i+1) c5);have z5:=Nat.le_trans (aA ZL) k5.size;have K5:=(aA KL).trans (k5.mono Yo);have M6:=aB m6;have O6:=aB (tC o5 k6 Yo);have A6:=aB (((aA PA).under k5 Yo).kept k6 Yo);have B6:=aB (((aA PB).under k5 Yo).kept k6 Yo);have Z6:=aB (Nat.le_trans z5 k6.size);have K6:=aB (aF K5 k6 Yo Yo);have E6:=aB e6;clear o5 k5 m5 e6 m6 k6 z5 K5 ML PA PB ZL KL OL SL;go_wp2_with fail
        rw[<-aA E6]
        go_roundw
        case rel=>exact⟨i+1,c5,a5,by go_num,Yo,aA M6,aA O6,aA A6,aA B6,aA Z6,aA K6⟩
        case measure=>simp[intOf]<;>omega
     .have e7:i=n:=Yo;subst e7;clear c3 f3;have mM:=aA QM;have c0:=mM.cell0;have c1:=mM.cell1;have c2:=mM.cell2;have c3:=mM.cell3;clear mM;go_wp2_with fail
      refine (wX (x1:Nat) (x2:Nat) (dR g:Nat) at_ i c _).mono ?_;rintro e w5 ⟨rfl,k5⟩;clear c0 c1 c2 c3;have mA:=(aA QA).below k5;have a0:=mA.cell0;have a1:=mA.cell1;have a2:=mA.cell2;have a3:=mA.cell3;have f0:=mA.free 0;have f1:=mA.free 1;have f2:=mA.free 2;have f3:=mA.free 3;have hsz:=aA SZ;have K5:=aB ((aA QK).trans (k5.mono (aA QK).size));by_cases hE:bW (x1:Nat) (x2:Nat) (dR g:Nat) i=0
      .have EE:=aB hE;rw[hE];have mM:=(aA QM).below k5;have c0:=mM.cell0;have c1:=mM.cell1;have c2:=mM.cell2;have c3:=mM.cell3;obtain⟨w6,e6,m6,k6⟩:=mA.put (x1:Nat) (x2:Nat) (dR g:Nat) (.slice at_ i c);have p0:=m6.cell0;have p1:=m6.cell1;have p2:=m6.cell2;have p3:=m6.cell3;have O6:=aB (tC (mI (aA QO) k5) k6 Yo);have K6:=aB (aF (aA K5) k6 (Xr _) (aA K5).size);have E6:=aB e6;clear k5 mA mM e6 m6 k6 hE;go_wp2_with fail
       rw[<-aA E6];clear c0 c1 c2 c3 a0 a1 a2 a3 f0 f1 f2 f3;refine bodyPost_ret (v:=.tuple #[gH (x1:Nat) (x2:Nat) (dR g:Nat) (.slice at_ i c),.int .i64 0]) (by simp[results,Tryz.results42,go_sem,gH,p0,p1,p2,p3]) rfl ⟨0,.slice at_ i c,?_,?_,?_,aA K6⟩
       .rw[aA EX1,aA EX2,aA EN,aA EE]
       .rw[aA EX1,aA EX2];rfl
       .rw[show dN 0 (g 7)=i from aA EN];exact uN (aA O6) Yo
      .obtain⟨x,ex⟩:∃x,bW (x1:Nat) (x2:Nat) (dR g:Nat) i=x:=⟨_,rfl⟩;have EE:=aB ex;rw[ex] at hE ⊢;have tx:(x !=0)=true:=by simp[hE]
       have mB:=(aA QB).below k5;have c0:=mB.cell0;have c1:=mB.cell1;have c2:=mB.cell2;have c3:=mB.cell3;obtain⟨w6,e6,m6,k6⟩:=mA.put 0 0 0 (.slice none 0 0);have p0:=m6.cell0;have p1:=m6.cell1;have p2:=m6.cell2;have p3:=m6.cell3;have K6:=aB (aF (aA K5) k6 (Xr _) (aA K5).size);have E6:=aB e6;clear k5 mA mB e6 m6 k6 ex;go_wp2_with fail
       rw[<-aA E6];clear c0 c1 c2 c3 a0 a1 a2 a3 f0 f1 f2 f3;have HE:=aB hE;clear hE tx;refine bodyPost_ret (v:=.tuple #[gH 0 0 0 (.slice none 0 0),.int .i64 x]) (by simp[results,Tryz.results42,go_sem,gH,p0,p1,p2,p3]) rfl ⟨x,.slice none 0 0,?_,?_,?_,aA K6⟩
       .rw[aA EX1,aA EX2,aA EN,aA EE]
       .unfold dN;rw[if_neg (aA HE),if_neg (aA HE),if_neg (aA HE)];rfl
       .unfold dN;rw[if_neg (aA HE)];exact World.ownsRow_nil _ _ _ _
theorem Y6:aHo 42:=by
 intro ao len cap g w hg hl hcap hs;have hr:=hs.rd;have z:∀E:Int,E≠0->gH (dN E (g 1):Nat) (dN E (g 2):Nat) (dN E (dR g):Nat) (.slice none 0 0)=gH 0 0 0 (.slice none 0 0):=λE h=>by unfold dN;rw[if_neg h,if_neg h,if_neg h];rfl
 have y:∀(E:Int) (w':World),E≠0->w'.ownsRow w.heap.size 3 1 (.slice none 0 0) (dN E (g 7)) (rowV (iF (dV g)) (dN E (g 7))):=λE w' h=>by unfold dN;rw[if_neg h];exact World.ownsRow_nil _ _ _ _
 by_cases h1:220<len
 .refine (LK ao len cap w h1).mono ?_;rintro e w' ⟨rfl,k⟩;exact⟨1,_,Or.inl ⟨h1,rfl⟩,by rw[z 1 Yc],y 1 w' Yc,k⟩
 .by_cases h2:len<12
  .refine (JQ ao len cap w h2).mono ?_;rintro e w' ⟨rfl,k⟩;exact⟨2,_,Or.inr (Or.inl ⟨Yo,Or.inl h2,rfl⟩),by rw[z 2 Yc],y 2 w' Yc,k⟩
  .by_cases h3:g 0=87
   .by_cases h4:oN g len
    .by_cases h5:24<g 7
     .refine (LX ao len cap g w hg hcap Yo Yo hr h3 h4 h5).mono ?_;rintro e w' ⟨rfl,k⟩;exact⟨6,_,Or.inr (Or.inr ⟨Yo,Yo,h3,Or.inr ⟨h4,Or.inl ⟨h5,rfl⟩⟩⟩),by rw[z 6 Yc],y 6 w' Yc,k⟩
     .by_cases h6:len=12+8*g 7
      .refine (PO ao len cap g w hg hcap Yo Yo hr h3 h4 Yo h6).mono ?_;rintro e w' ⟨E,v,hE,rfl,o,k⟩;exact⟨E,v,Or.inr (Or.inr ⟨Yo,Yo,h3,Or.inr ⟨h4,Or.inr ⟨Yo,Or.inr ⟨h6,hE⟩⟩⟩⟩),rfl,o,k⟩
      .refine (JP ao len cap g w hg hcap Yo Yo hr h3 h4 Yo h6).mono ?_;rintro e w' ⟨rfl,k⟩;exact⟨2,_,Or.inr (Or.inr ⟨Yo,Yo,h3,Or.inr ⟨h4,Or.inr ⟨Yo,Or.inl ⟨h6,rfl⟩⟩⟩⟩),by rw[z 2 Yc],y 2 w' Yc,k⟩
    .refine (PQ ao len cap g w hg hcap Yo Yo hr h3 h4).mono ?_;rintro e w' ⟨rfl,k⟩;exact⟨5,_,Or.inr (Or.inr ⟨Yo,Yo,h3,Or.inl ⟨h4,rfl⟩⟩),by rw[z 5 Yc],y 5 w' Yc,k⟩
   .refine (LU ao len cap g w Yo Yo hr h3).mono ?_;rintro e w' ⟨rfl,k⟩;exact⟨2,_,Or.inr (Or.inl ⟨Yo,Or.inr h3,rfl⟩),by rw[z 2 Yc],y 2 w' Yc,k⟩
end Go.Proofs.YthimcecbgpamdaaGreat
