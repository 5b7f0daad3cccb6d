import Derived.Test.YtdhblehhgpdpdacGreatNear154
import Derived.Deep.Cut
namespace Go.Proofs.YtdhblehhgpdpdacGreat
open Go.RowKit
noncomputable def aIU:Code:=aRH ((Tryz.f66.body.bind (findSeq 38)).getD .skip)
set_option maxHeartbeats 4000000 in
set_option maxRecDepth 1000000 in
theorem aFJ (g cap n : Nat) (F : Nat → Lp) (d : Nat → Nat) (a m b c s E : Nat) (w wr : World) (hS : SoR wr g cap n F d) (hK0 : Kept g w wr) (ml : Mg (TQ λy => (F y).p) (bH d s m E) a s c) (mr : Mg (TQ λy => (F y).p) (bH d s m E) c E b)
  (mx:∀i j,a≤i→i<c→c≤j→j<b→TQ (λy=>(F y).p) (bH d s m E i) (bH d s m E j)) (s1:a≤s) (s2:s≤c) (s3:s≤m) (E1:c≤E) (E2:E≤b) (E3:m≤E) (h3:b≤n) (hn:n≤2513169434843) (hc:a<c∧c<b)
  (IH:∀(d:Nat→Nat) (a' m' b':Nat) (w:World),b'-a'<b-a→SoR w g cap n F d→Mg (TQ λy=>(F y).p) d a' m' b'→a'<m'→m'<b'→b'≤n→Calls Tryz.prog 66 #[.slice (some ⟨g,0,none⟩) n cap,.int .i64 (a':Int),.int .i64 (m':Int),.int .i64 (b':Int),(.func (.func 32) #[] #[])] w λe w'=>e=.returned (.tuple #[])∧∃e:Nat→Nat,Same a' b' d e∧SoT (TQ λy=>(F y).p) e a' b'∧SoR w' g cap n F e∧Kept g w w')
  (A:Act) (Q:Exit→Act→World→Prop) (b0:A.eval (.tmp 0)=.slice (some ⟨g,0,none⟩) n cap) (b1:A.eval (.tmp 1)=.int .i64 (a:Int)) (b2:A.eval (.tmp 2)=.int .i64 (m:Int)) (b3:A.eval (.tmp 3)=.int .i64 (b:Int)) (b4:A.eval (.tmp 4)=(.func (.func 32) #[] #[])) (b18:A.eval (.tmp 18)=.int .i64 (c:Int)) (b20:A.eval (.tmp 20)=.int .i64 (s:Int)) (b24:A.eval (.tmp 24)=.int .i64 (E:Int)) (hs:220≤A.tmps.size)
  (hQ:∀a' w',a'.defers=A.defers→(∃e:Nat→Nat,Same a b d e∧SoT (TQ λy=>(F y).p) e a b∧SoR w' g cap n F e∧Kept g w w')→Q .normal a' w'):aIU.wp Tryz.prog Q A wr:=by
 refine CodI.out ?_
 unfold aIU
 conv=>arg 2;whnf
 refine qX (λA1 w1=>Stay [0,1,2,3,4,18,20,24] A A1∧SoR w1 g cap n F (bH d s m E)∧Kept g w w1) ?_ ?_
 ·skip
  conv=>arg 2;whnf
  by_cases q1:s<m
  ·by_cases q2:m<E
   ·have hcall:=aHo g cap n F d s m E wr hS q1 q2 Yo hn
    refine qX (λa2 w2=>Stay [0,1,2,3,4,18,20,24] A a2∧a2.eval (.tmp 185)=.bool true∧w2=wr) ?_ ?_
    ·refine aR ?_
     refine bY (v:=(.int .i64 ((s:Int)))) Yw (aH (.tmp 20) rfl b20 _) ?_
     show LstI _ _ _ _ (Act.put _ (some 178) _) _
     refine bY (v:=(.int .i64 ((m:Int)))) Yw (aH (.tmp 2) rfl (Ex b2) _) ?_
     show LstI _ _ _ _ (Act.put _ (some 179) _) _
     refine bY (v:=(.bool true)) Yw (fH (.tmp 178) (.tmp 179) rfl (Ex Et) Es (decide_eq_true Yo) _) ?_
     show LstI _ _ _ _ (Act.put _ (some 180) _) _
     refine bY (v:=(.bool true)) Yw (aH (.tmp 180) rfl Es _) ?_
     show LstI _ _ _ _ (Act.put _ (some 181) _) _
     refine bY (v:=(.int .i64 ((m:Int)))) (bC (j:=3) rfl rfl rfl Es) (aH (.tmp 2) rfl (Ex (Ex (Ex (Ex b2)))) _) ?_
     show LstI _ _ _ _ (Act.put _ (some 182) _) _
     refine bY (v:=(.int .i64 ((E:Int)))) (bC (j:=3) rfl rfl rfl (Ex Es)) (aH (.tmp 24) rfl (Ex (Ex (Ex (Ex (Ex b24))))) _) ?_
     show LstI _ _ _ _ (Act.put _ (some 183) _) _
     refine bY (v:=(.bool true)) (bC (j:=3) rfl rfl rfl (Ex (Ex Es))) (fH (.tmp 182) (.tmp 183) rfl (Ex Es) Es (decide_eq_true Yo) _) ?_
     show LstI _ _ _ _ (Act.put _ (some 184) _) _
     refine bY (v:=(.bool true)) Yw (aX (.tmp 181) (.tmp 184) (.const (.bool false)) rfl (Ex (Ex (Ex Es))) Es _) ?_
     show LstI _ _ _ _ (Act.put _ (some 185) _) _
     exact pO ⟨rfl,(((((((((Stay.refl _ _).put 178 _ rfl).put 179 _ rfl).put 180 _ rfl).put 181 _ rfl).put 182 _ rfl).put 183 _ rfl).put 184 _ rfl).put 185 _ rfl),Es,rfl⟩
    ·rintro A2 w2 ⟨st,hb,rfl⟩
     have hz:220≤A2.tmps.size:=by rw[st.size];exact hs
     clear hs
     have hs:=hz
     refine bP hb ?_
     refine aR ?_
     refine bY (v:=(.slice (some ⟨g,0,none⟩) n cap)) Yw (aH (.tmp 0) rfl ((st.ev 0 Yc).trans b0) _) ?_
     show LstI _ _ _ _ (Act.put _ (some 186) _) _
     refine bY (v:=(.int .i64 ((s:Int)))) Yw (aH (.tmp 20) rfl (Ex ((st.ev 20 Yc).trans b20)) _) ?_
     show LstI _ _ _ _ (Act.put _ (some 187) _) _
     refine bY (v:=(.int .i64 ((m:Int)))) Yw (aH (.tmp 2) rfl (Ex (Ex ((st.ev 2 Yc).trans b2))) _) ?_
     show LstI _ _ _ _ (Act.put _ (some 188) _) _
     refine bY (v:=(.int .i64 ((E:Int)))) Yw (aH (.tmp 24) rfl (Ex (Ex (Ex ((st.ev 24 Yc).trans b24)))) _) ?_
     show LstI _ _ _ _ (Act.put _ (some 189) _) _
     refine bY (v:=(.func (.func 32) #[] #[])) Yw (aH (.tmp 4) rfl (Ex (Ex (Ex (Ex ((st.ev 4 Yc).trans b4))))) _) ?_
     show LstI _ _ _ _ (Act.put _ (some 190) _) _
     refine aDN Yw (λK hK=>?_)
     refine aAv _ 88 (.tmp 186) (.tmp 187) (.tmp 188) (.tmp 189) (.tmp 190) _ rfl (Ex (Ex (Ex (Ex Et)))) (Ex (Ex (Ex Es))) (Ex (Ex Es)) (Ex Es) Es (by go_simp) hcall ?_
     rintro e w3 ⟨rfl,m3,k3⟩
     refine⟨_,rfl,?_⟩
     refine hK _ _ ?_
     clear hK K
     show LstI _ _ _ _ (Act.put _ (some 191) _) _
     exact pO ⟨rfl,((((((st.put 186 _ rfl).put 187 _ rfl).put 188 _ rfl).put 189 _ rfl).put 190 _ rfl).put 191 _ rfl),m3,hK0.trans k3 (Or.inl rfl)⟩
   ·
    refine qX (λa2 w2=>Stay [0,1,2,3,4,18,20,24] A a2∧a2.eval (.tmp 185)=.bool false∧w2=wr) ?_ ?_
    ·refine aR ?_
     refine bY (v:=(.int .i64 ((s:Int)))) Yw (aH (.tmp 20) rfl b20 _) ?_
     show LstI _ _ _ _ (Act.put _ (some 178) _) _
     refine bY (v:=(.int .i64 ((m:Int)))) Yw (aH (.tmp 2) rfl (Ex b2) _) ?_
     show LstI _ _ _ _ (Act.put _ (some 179) _) _
     refine bY (v:=(.bool true)) Yw (fH (.tmp 178) (.tmp 179) rfl (Ex Et) Es (decide_eq_true Yo) _) ?_
     show LstI _ _ _ _ (Act.put _ (some 180) _) _
     refine bY (v:=(.bool true)) Yw (aH (.tmp 180) rfl Es _) ?_
     show LstI _ _ _ _ (Act.put _ (some 181) _) _
     refine bY (v:=(.int .i64 ((m:Int)))) (bC (j:=3) rfl rfl rfl Es) (aH (.tmp 2) rfl (Ex (Ex (Ex (Ex b2)))) _) ?_
     show LstI _ _ _ _ (Act.put _ (some 182) _) _
     refine bY (v:=(.int .i64 ((E:Int)))) (bC (j:=3) rfl rfl rfl (Ex Es)) (aH (.tmp 24) rfl (Ex (Ex (Ex (Ex (Ex b24))))) _) ?_
     show LstI _ _ _ _ (Act.put _ (some 183) _) _
     refine bY (v:=(.bool false)) (bC (j:=3) rfl rfl rfl (Ex (Ex Es))) (fH (.tmp 182) (.tmp 183) rfl (Ex Es) Es (decide_eq_false Yo) _) ?_
     show LstI _ _ _ _ (Act.put _ (some 184) _) _
     refine bY (v:=(.bool false)) Yw (aX (.tmp 181) (.tmp 184) (.const (.bool false)) rfl (Ex (Ex (Ex Es))) Es _) ?_
     show LstI _ _ _ _ (Act.put _ (some 185) _) _
     exact pO ⟨rfl,(((((((((Stay.refl _ _).put 178 _ rfl).put 179 _ rfl).put 180 _ rfl).put 181 _ rfl).put 182 _ rfl).put 183 _ rfl).put 184 _ rfl).put 185 _ rfl),Es,rfl⟩
    ·rintro A2 w2 ⟨st,hb,rfl⟩
     refine bM hb ?_
     exact rA ⟨rfl,st,by rw[tV Yo s3 E3];exact hS,hK0⟩
  ·
   refine qX (λa2 w2=>Stay [0,1,2,3,4,18,20,24] A a2∧a2.eval (.tmp 185)=.bool false∧w2=wr) ?_ ?_
   ·refine aR ?_
    refine bY (v:=(.int .i64 ((s:Int)))) Yw (aH (.tmp 20) rfl b20 _) ?_
    show LstI _ _ _ _ (Act.put _ (some 178) _) _
    refine bY (v:=(.int .i64 ((m:Int)))) Yw (aH (.tmp 2) rfl (Ex b2) _) ?_
    show LstI _ _ _ _ (Act.put _ (some 179) _) _
    refine bY (v:=(.bool false)) Yw (fH (.tmp 178) (.tmp 179) rfl (Ex Et) Es (decide_eq_false Yo) _) ?_
    show LstI _ _ _ _ (Act.put _ (some 180) _) _
    refine bY (v:=(.bool false)) Yw (aH (.tmp 180) rfl Es _) ?_
    show LstI _ _ _ _ (Act.put _ (some 181) _) _
    refine pI (eB (j:=3) rfl rfl rfl Es Yc) ?_
    show LstI _ _ _ _ (Act.put _ (some 182) _) _
    refine pI (eB (j:=3) rfl rfl rfl (Ex Es) Yc) ?_
    show LstI _ _ _ _ (Act.put _ (some 183) _) _
    refine pI (eB (j:=3) rfl rfl rfl (Ex (Ex Es)) Yc) ?_
    show LstI _ _ _ _ (Act.put _ (some 184) _) _
    refine bY (v:=(.bool false)) Yw (bI (.tmp 181) (.tmp 184) (.const (.bool false)) rfl (Ex (Ex (Ex Es))) rfl _) ?_
    show LstI _ _ _ _ (Act.put _ (some 185) _) _
    exact pO ⟨rfl,(((((((((Stay.refl _ _).put 178 _ rfl).put 179 _ rfl).put 180 _ rfl).put 181 _ rfl).put 182 _ rfl).put 183 _ rfl).put 184 _ rfl).put 185 _ rfl),Es,rfl⟩
   ·rintro A2 w2 ⟨st,hb,rfl⟩
    refine bM hb ?_
    exact rA ⟨rfl,st,by rw[tV Yo s3 E3];exact hS,hK0⟩
 rintro A1 w1 ⟨st1,hS1,hK1⟩
 have p0:=(st1.ev 0 Yc).trans b0
 have p1:=(st1.ev 1 Yc).trans b1
 have p2:=(st1.ev 2 Yc).trans b2
 have p3:=(st1.ev 3 Yc).trans b3
 have p4:=(st1.ev 4 Yc).trans b4
 have p18:=(st1.ev 18 Yc).trans b18
 have p20:=(st1.ev 20 Yc).trans b20
 have p24:=(st1.ev 24 Yc).trans b24
 have hsp:220≤A1.tmps.size:=by rw[st1.size];exact hs
 clear hs
 have hs:=hsp
 conv=>arg 2;whnf
 refine qX (λA2 w2=>Stay [0,1,2,3,4,18,20,24] A1 A2∧∃e:Nat→Nat,Same a c (bH d s m E) e∧SoT (TQ λy=>(F y).p) e a c∧SoR w2 g cap n F e∧Kept g w w2) ?_ ?_
 ·skip
  conv=>arg 2;whnf
  by_cases q1:a<s
  ·by_cases q2:s<c
   ·have hcall:=IH (bH d s m E) a s c w1 Yo hS1 ml q1 q2 Yo
    refine qX (λa2 w9=>Stay [0,1,2,3,4,18,20,24] A1 a2∧a2.eval (.tmp 199)=.bool true∧w9=w1) ?_ ?_
    ·refine aR ?_
     refine bY (v:=(.int .i64 ((a:Int)))) Yw (aH (.tmp 1) rfl p1 _) ?_
     show LstI _ _ _ _ (Act.put _ (some 192) _) _
     refine bY (v:=(.int .i64 ((s:Int)))) Yw (aH (.tmp 20) rfl (Ex p20) _) ?_
     show LstI _ _ _ _ (Act.put _ (some 193) _) _
     refine bY (v:=(.bool true)) Yw (fH (.tmp 192) (.tmp 193) rfl (Ex Et) Es (decide_eq_true Yo) _) ?_
     show LstI _ _ _ _ (Act.put _ (some 194) _) _
     refine bY (v:=(.bool true)) Yw (aH (.tmp 194) rfl Es _) ?_
     show LstI _ _ _ _ (Act.put _ (some 195) _) _
     refine bY (v:=(.int .i64 ((s:Int)))) (bC (j:=3) rfl rfl rfl Es) (aH (.tmp 20) rfl (Ex (Ex (Ex (Ex p20)))) _) ?_
     show LstI _ _ _ _ (Act.put _ (some 196) _) _
     refine bY (v:=(.int .i64 ((c:Int)))) (bC (j:=3) rfl rfl rfl (Ex Es)) (aH (.tmp 18) rfl (Ex (Ex (Ex (Ex (Ex p18))))) _) ?_
     show LstI _ _ _ _ (Act.put _ (some 197) _) _
     refine bY (v:=(.bool true)) (bC (j:=3) rfl rfl rfl (Ex (Ex Es))) (fH (.tmp 196) (.tmp 197) rfl (Ex Es) Es (decide_eq_true Yo) _) ?_
     show LstI _ _ _ _ (Act.put _ (some 198) _) _
     refine bY (v:=(.bool true)) Yw (aX (.tmp 195) (.tmp 198) (.const (.bool false)) rfl (Ex (Ex (Ex Es))) Es _) ?_
     show LstI _ _ _ _ (Act.put _ (some 199) _) _
     exact pO ⟨rfl,(((((((((Stay.refl _ _).put 192 _ rfl).put 193 _ rfl).put 194 _ rfl).put 195 _ rfl).put 196 _ rfl).put 197 _ rfl).put 198 _ rfl).put 199 _ rfl),Es,rfl⟩
    ·rintro A9 w9 ⟨st,hb,rfl⟩
     have hz:220≤A9.tmps.size:=by rw[st.size];exact hs
     clear hs
     have hs:=hz
     refine bP hb ?_
     refine aR ?_
     refine bY (v:=(.slice (some ⟨g,0,none⟩) n cap)) Yw (aH (.tmp 0) rfl ((st.ev 0 Yc).trans p0) _) ?_
     show LstI _ _ _ _ (Act.put _ (some 200) _) _
     refine bY (v:=(.int .i64 ((a:Int)))) Yw (aH (.tmp 1) rfl (Ex ((st.ev 1 Yc).trans p1)) _) ?_
     show LstI _ _ _ _ (Act.put _ (some 201) _) _
     refine bY (v:=(.int .i64 ((s:Int)))) Yw (aH (.tmp 20) rfl (Ex (Ex ((st.ev 20 Yc).trans p20))) _) ?_
     show LstI _ _ _ _ (Act.put _ (some 202) _) _
     refine bY (v:=(.int .i64 ((c:Int)))) Yw (aH (.tmp 18) rfl (Ex (Ex (Ex ((st.ev 18 Yc).trans p18)))) _) ?_
     show LstI _ _ _ _ (Act.put _ (some 203) _) _
     refine bY (v:=(.func (.func 32) #[] #[])) Yw (aH (.tmp 4) rfl (Ex (Ex (Ex (Ex ((st.ev 4 Yc).trans p4))))) _) ?_
     show LstI _ _ _ _ (Act.put _ (some 204) _) _
     refine aDN Yw (λK hK=>?_)
     refine aAv _ 66 (.tmp 200) (.tmp 201) (.tmp 202) (.tmp 203) (.tmp 204) _ rfl (Ex (Ex (Ex (Ex Et)))) (Ex (Ex (Ex Es))) (Ex (Ex Es)) (Ex Es) Es (by go_simp) hcall ?_
     rintro e w4 ⟨rfl,e4,y4,t4,m4,k4⟩
     refine⟨_,rfl,?_⟩
     refine hK _ _ ?_
     clear hK K
     show LstI _ _ _ _ (Act.put _ (some 205) _) _
     exact pO ⟨rfl,((((((st.put 200 _ rfl).put 201 _ rfl).put 202 _ rfl).put 203 _ rfl).put 204 _ rfl).put 205 _ rfl),e4,y4,t4,m4,hK1.trans k4 (Or.inl rfl)⟩
   ·
    refine qX (λa2 w9=>Stay [0,1,2,3,4,18,20,24] A1 a2∧a2.eval (.tmp 199)=.bool false∧w9=w1) ?_ ?_
    ·refine aR ?_
     refine bY (v:=(.int .i64 ((a:Int)))) Yw (aH (.tmp 1) rfl p1 _) ?_
     show LstI _ _ _ _ (Act.put _ (some 192) _) _
     refine bY (v:=(.int .i64 ((s:Int)))) Yw (aH (.tmp 20) rfl (Ex p20) _) ?_
     show LstI _ _ _ _ (Act.put _ (some 193) _) _
     refine bY (v:=(.bool true)) Yw (fH (.tmp 192) (.tmp 193) rfl (Ex Et) Es (decide_eq_true Yo) _) ?_
     show LstI _ _ _ _ (Act.put _ (some 194) _) _
     refine bY (v:=(.bool true)) Yw (aH (.tmp 194) rfl Es _) ?_
     show LstI _ _ _ _ (Act.put _ (some 195) _) _
     refine bY (v:=(.int .i64 ((s:Int)))) (bC (j:=3) rfl rfl rfl Es) (aH (.tmp 20) rfl (Ex (Ex (Ex (Ex p20)))) _) ?_
     show LstI _ _ _ _ (Act.put _ (some 196) _) _
     refine bY (v:=(.int .i64 ((c:Int)))) (bC (j:=3) rfl rfl rfl (Ex Es)) (aH (.tmp 18) rfl (Ex (Ex (Ex (Ex (Ex p18))))) _) ?_
     show LstI _ _ _ _ (Act.put _ (some 197) _) _
     refine bY (v:=(.bool false)) (bC (j:=3) rfl rfl rfl (Ex (Ex Es))) (fH (.tmp 196) (.tmp 197) rfl (Ex Es) Es (decide_eq_false Yo) _) ?_
     show LstI _ _ _ _ (Act.put _ (some 198) _) _
     refine bY (v:=(.bool false)) Yw (aX (.tmp 195) (.tmp 198) (.const (.bool false)) rfl (Ex (Ex (Ex Es))) Es _) ?_
     show LstI _ _ _ _ (Act.put _ (some 199) _) _
     exact pO ⟨rfl,(((((((((Stay.refl _ _).put 192 _ rfl).put 193 _ rfl).put 194 _ rfl).put 195 _ rfl).put 196 _ rfl).put 197 _ rfl).put 198 _ rfl).put 199 _ rfl),Es,rfl⟩
    ·rintro A9 w9 ⟨st,hb,rfl⟩
     refine bM hb ?_
     exact rA ⟨rfl,st,bH d s m E,Same.refl _ _ _,ml.one_l Yo,hS1,hK1⟩
  ·
   refine qX (λa2 w9=>Stay [0,1,2,3,4,18,20,24] A1 a2∧a2.eval (.tmp 199)=.bool false∧w9=w1) ?_ ?_
   ·refine aR ?_
    refine bY (v:=(.int .i64 ((a:Int)))) Yw (aH (.tmp 1) rfl p1 _) ?_
    show LstI _ _ _ _ (Act.put _ (some 192) _) _
    refine bY (v:=(.int .i64 ((s:Int)))) Yw (aH (.tmp 20) rfl (Ex p20) _) ?_
    show LstI _ _ _ _ (Act.put _ (some 193) _) _
    refine bY (v:=(.bool false)) Yw (fH (.tmp 192) (.tmp 193) rfl (Ex Et) Es (decide_eq_false Yo) _) ?_
    show LstI _ _ _ _ (Act.put _ (some 194) _) _
    refine bY (v:=(.bool false)) Yw (aH (.tmp 194) rfl Es _) ?_
    show LstI _ _ _ _ (Act.put _ (some 195) _) _
    refine pI (eB (j:=3) rfl rfl rfl Es Yc) ?_
    show LstI _ _ _ _ (Act.put _ (some 196) _) _
    refine pI (eB (j:=3) rfl rfl rfl (Ex Es) Yc) ?_
    show LstI _ _ _ _ (Act.put _ (some 197) _) _
    refine pI (eB (j:=3) rfl rfl rfl (Ex (Ex Es)) Yc) ?_
    show LstI _ _ _ _ (Act.put _ (some 198) _) _
    refine bY (v:=(.bool false)) Yw (bI (.tmp 195) (.tmp 198) (.const (.bool false)) rfl (Ex (Ex (Ex Es))) rfl _) ?_
    show LstI _ _ _ _ (Act.put _ (some 199) _) _
    exact pO ⟨rfl,(((((((((Stay.refl _ _).put 192 _ rfl).put 193 _ rfl).put 194 _ rfl).put 195 _ rfl).put 196 _ rfl).put 197 _ rfl).put 198 _ rfl).put 199 _ rfl),Es,rfl⟩
   ·rintro A9 w9 ⟨st,hb,rfl⟩
    refine bM hb ?_
    exact rA ⟨rfl,st,bH d s m E,Same.refl _ _ _,ml.one_l Yo,hS1,hK1⟩
 rintro A2 w2 ⟨st2,e,y2,t2,hS2,hK2⟩
 have r0:=(st2.ev 0 Yc).trans p0
 have r1:=(st2.ev 1 Yc).trans p1
 have r2:=(st2.ev 2 Yc).trans p2
 have r3:=(st2.ev 3 Yc).trans p3
 have r4:=(st2.ev 4 Yc).trans p4
 have r18:=(st2.ev 18 Yc).trans p18
 have r20:=(st2.ev 20 Yc).trans p20
 have r24:=(st2.ev 24 Yc).trans p24
 have hsr:220≤A2.tmps.size:=by rw[st2.size];exact hs
 clear hs
 have hs:=hsr
 have fin:∀f,Same c b e f→SoT (TQ λy=>(F y).p) f c b→Same a b d f∧SoT (TQ λy=>(F y).p) f a b:=λf f1 f2=>by
  have q:=aNQ Yo Yo y2 f1 t2 f2 mx
  exact⟨((aBE s3 E3).wide s1 E2).trans q.1,q.2⟩
 have mr2:=mr.same y2 (Or.inr (Nat.le_refl _)) ⟨E1,E2⟩
 conv=>arg 2;whnf
 by_cases q1:c<E
 ·by_cases q2:E<b
  ·have hcall:=IH e c E b w2 Yo hS2 mr2 q1 q2 h3
   refine qX (λa9 w9=>Stay [0,1,2,3,4,18,20,24] A2 a9∧a9.eval (.tmp 213)=.bool true∧w2=w9) ?_ ?_
   ·refine aR ?_
    refine bY (v:=(.int .i64 ((c:Int)))) Yw (aH (.tmp 18) rfl r18 _) ?_
    show LstI _ _ _ _ (Act.put _ (some 206) _) _
    refine bY (v:=(.int .i64 ((E:Int)))) Yw (aH (.tmp 24) rfl (Ex r24) _) ?_
    show LstI _ _ _ _ (Act.put _ (some 207) _) _
    refine bY (v:=(.bool true)) Yw (fH (.tmp 206) (.tmp 207) rfl (Ex Et) Es (decide_eq_true Yo) _) ?_
    show LstI _ _ _ _ (Act.put _ (some 208) _) _
    refine bY (v:=(.bool true)) Yw (aH (.tmp 208) rfl Es _) ?_
    show LstI _ _ _ _ (Act.put _ (some 209) _) _
    refine bY (v:=(.int .i64 ((E:Int)))) (bC (j:=3) rfl rfl rfl Es) (aH (.tmp 24) rfl (Ex (Ex (Ex (Ex r24)))) _) ?_
    show LstI _ _ _ _ (Act.put _ (some 210) _) _
    refine bY (v:=(.int .i64 ((b:Int)))) (bC (j:=3) rfl rfl rfl (Ex Es)) (aH (.tmp 3) rfl (Ex (Ex (Ex (Ex (Ex r3))))) _) ?_
    show LstI _ _ _ _ (Act.put _ (some 211) _) _
    refine bY (v:=(.bool true)) (bC (j:=3) rfl rfl rfl (Ex (Ex Es))) (fH (.tmp 210) (.tmp 211) rfl (Ex Es) Es (decide_eq_true Yo) _) ?_
    show LstI _ _ _ _ (Act.put _ (some 212) _) _
    refine bY (v:=(.bool true)) Yw (aX (.tmp 209) (.tmp 212) (.const (.bool false)) rfl (Ex (Ex (Ex Es))) Es _) ?_
    show LstI _ _ _ _ (Act.put _ (some 213) _) _
    exact pO ⟨rfl,(((((((((Stay.refl _ _).put 206 _ rfl).put 207 _ rfl).put 208 _ rfl).put 209 _ rfl).put 210 _ rfl).put 211 _ rfl).put 212 _ rfl).put 213 _ rfl),Es,rfl⟩
   ·rintro A9 w9 ⟨st,hb,rfl⟩
    have hz:220≤A9.tmps.size:=by rw[st.size];exact hs
    clear hs
    have hs:=hz
    refine bP hb ?_
    refine aR ?_
    refine bY (v:=(.slice (some ⟨g,0,none⟩) n cap)) Yw (aH (.tmp 0) rfl ((st.ev 0 Yc).trans r0) _) ?_
    show LstI _ _ _ _ (Act.put _ (some 214) _) _
    refine bY (v:=(.int .i64 ((c:Int)))) Yw (aH (.tmp 18) rfl (Ex ((st.ev 18 Yc).trans r18)) _) ?_
    show LstI _ _ _ _ (Act.put _ (some 215) _) _
    refine bY (v:=(.int .i64 ((E:Int)))) Yw (aH (.tmp 24) rfl (Ex (Ex ((st.ev 24 Yc).trans r24))) _) ?_
    show LstI _ _ _ _ (Act.put _ (some 216) _) _
    refine bY (v:=(.int .i64 ((b:Int)))) Yw (aH (.tmp 3) rfl (Ex (Ex (Ex ((st.ev 3 Yc).trans r3)))) _) ?_
    show LstI _ _ _ _ (Act.put _ (some 217) _) _
    refine bY (v:=(.func (.func 32) #[] #[])) Yw (aH (.tmp 4) rfl (Ex (Ex (Ex (Ex ((st.ev 4 Yc).trans r4))))) _) ?_
    show LstI _ _ _ _ (Act.put _ (some 218) _) _
    refine aDN Yw (λK hK=>?_)
    refine aAv _ 66 (.tmp 214) (.tmp 215) (.tmp 216) (.tmp 217) (.tmp 218) _ rfl (Ex (Ex (Ex (Ex Et)))) (Ex (Ex (Ex Es))) (Ex (Ex Es)) (Ex Es) Es (by go_simp) hcall ?_
    rintro e w5 ⟨rfl,e5,y5,t5,m5,k5⟩
    refine⟨_,rfl,?_⟩
    refine hK _ _ ?_
    clear hK K
    show LstI _ _ _ _ (Act.put _ (some 219) _) _
    exact pO (hQ _ _ ((((((((st.put 214 _ rfl).put 215 _ rfl).put 216 _ rfl).put 217 _ rfl).put 218 _ rfl).put 219 _ rfl)).defers.trans (st2.defers.trans st1.defers)) ⟨e5,(fin _ y5 t5).1,(fin _ y5 t5).2,m5,hK2.trans k5 (Or.inl rfl)⟩)
  ·
   refine qX (λa9 w9=>Stay [0,1,2,3,4,18,20,24] A2 a9∧a9.eval (.tmp 213)=.bool false∧w2=w9) ?_ ?_
   ·refine aR ?_
    refine bY (v:=(.int .i64 ((c:Int)))) Yw (aH (.tmp 18) rfl r18 _) ?_
    show LstI _ _ _ _ (Act.put _ (some 206) _) _
    refine bY (v:=(.int .i64 ((E:Int)))) Yw (aH (.tmp 24) rfl (Ex r24) _) ?_
    show LstI _ _ _ _ (Act.put _ (some 207) _) _
    refine bY (v:=(.bool true)) Yw (fH (.tmp 206) (.tmp 207) rfl (Ex Et) Es (decide_eq_true Yo) _) ?_
    show LstI _ _ _ _ (Act.put _ (some 208) _) _
    refine bY (v:=(.bool true)) Yw (aH (.tmp 208) rfl Es _) ?_
    show LstI _ _ _ _ (Act.put _ (some 209) _) _
    refine bY (v:=(.int .i64 ((E:Int)))) (bC (j:=3) rfl rfl rfl Es) (aH (.tmp 24) rfl (Ex (Ex (Ex (Ex r24)))) _) ?_
    show LstI _ _ _ _ (Act.put _ (some 210) _) _
    refine bY (v:=(.int .i64 ((b:Int)))) (bC (j:=3) rfl rfl rfl (Ex Es)) (aH (.tmp 3) rfl (Ex (Ex (Ex (Ex (Ex r3))))) _) ?_
    show LstI _ _ _ _ (Act.put _ (some 211) _) _
    refine bY (v:=(.bool false)) (bC (j:=3) rfl rfl rfl (Ex (Ex Es))) (fH (.tmp 210) (.tmp 211) rfl (Ex Es) Es (decide_eq_false Yo) _) ?_
    show LstI _ _ _ _ (Act.put _ (some 212) _) _
    refine bY (v:=(.bool false)) Yw (aX (.tmp 209) (.tmp 212) (.const (.bool false)) rfl (Ex (Ex (Ex Es))) Es _) ?_
    show LstI _ _ _ _ (Act.put _ (some 213) _) _
    exact pO ⟨rfl,(((((((((Stay.refl _ _).put 206 _ rfl).put 207 _ rfl).put 208 _ rfl).put 209 _ rfl).put 210 _ rfl).put 211 _ rfl).put 212 _ rfl).put 213 _ rfl),Es,rfl⟩
   ·rintro A9 w9 ⟨st,hb,rfl⟩
    refine bM hb ?_
    exact rA (hQ _ _ (st.defers.trans (st2.defers.trans st1.defers)) ⟨e,(fin e (Same.refl _ _ _) (mr2.one_l Yo)).1,(fin e (Same.refl _ _ _) (mr2.one_l Yo)).2,hS2,hK2⟩)
 ·
  refine qX (λa9 w9=>Stay [0,1,2,3,4,18,20,24] A2 a9∧a9.eval (.tmp 213)=.bool false∧w2=w9) ?_ ?_
  ·refine aR ?_
   refine bY (v:=(.int .i64 ((c:Int)))) Yw (aH (.tmp 18) rfl r18 _) ?_
   show LstI _ _ _ _ (Act.put _ (some 206) _) _
   refine bY (v:=(.int .i64 ((E:Int)))) Yw (aH (.tmp 24) rfl (Ex r24) _) ?_
   show LstI _ _ _ _ (Act.put _ (some 207) _) _
   refine bY (v:=(.bool false)) Yw (fH (.tmp 206) (.tmp 207) rfl (Ex Et) Es (decide_eq_false Yo) _) ?_
   show LstI _ _ _ _ (Act.put _ (some 208) _) _
   refine bY (v:=(.bool false)) Yw (aH (.tmp 208) rfl Es _) ?_
   show LstI _ _ _ _ (Act.put _ (some 209) _) _
   refine pI (eB (j:=3) rfl rfl rfl Es Yc) ?_
   show LstI _ _ _ _ (Act.put _ (some 210) _) _
   refine pI (eB (j:=3) rfl rfl rfl (Ex Es) Yc) ?_
   show LstI _ _ _ _ (Act.put _ (some 211) _) _
   refine pI (eB (j:=3) rfl rfl rfl (Ex (Ex Es)) Yc) ?_
   show LstI _ _ _ _ (Act.put _ (some 212) _) _
   refine bY (v:=(.bool false)) Yw (bI (.tmp 209) (.tmp 212) (.const (.bool false)) rfl (Ex (Ex (Ex Es))) rfl _) ?_
   show LstI _ _ _ _ (Act.put _ (some 213) _) _
   exact pO ⟨rfl,(((((((((Stay.refl _ _).put 206 _ rfl).put 207 _ rfl).put 208 _ rfl).put 209 _ rfl).put 210 _ rfl).put 211 _ rfl).put 212 _ rfl).put 213 _ rfl),Es,rfl⟩
  ·rintro A9 w9 ⟨st,hb,rfl⟩
   refine bM hb ?_
   exact rA (hQ _ _ (st.defers.trans (st2.defers.trans st1.defers)) ⟨e,(fin e (Same.refl _ _ _) (mr2.one_l Yo)).1,(fin e (Same.refl _ _ _) (mr2.one_l Yo)).2,hS2,hK2⟩)
set_option maxHeartbeats 4000000 in
set_option maxRecDepth 1000000 in
theorem aHz (g cap n : Nat) (F : Nat → Lp) (d : Nat → Nat) (a m b : Nat) (w : World) (h : SoR w g cap n F d) (hm : Mg (TQ λy => (F y).p) d a m b) (h3 : b ≤ n) (hn : n ≤ 2513169434843) (ha : a + 1 < m) (hb : m + 1 < b)
  (IH:∀(d:Nat→Nat) (a' m' b':Nat) (w:World),b'-a'<b-a→SoR w g cap n F d→Mg (TQ λy=>(F y).p) d a' m' b'→a'<m'→m'<b'→b'≤n→Calls Tryz.prog 66 #[.slice (some ⟨g,0,none⟩) n cap,.int .i64 (a':Int),.int .i64 (m':Int),.int .i64 (b':Int),(.func (.func 32) #[] #[])] w λe w'=>e=.returned (.tuple #[])∧∃e:Nat→Nat,Same a' b' d e∧SoT (TQ λy=>(F y).p) e a' b'∧SoR w' g cap n F e∧Kept g w w'):
  Calls Tryz.prog 66 #[.slice (some ⟨g,0,none⟩) n cap,.int .i64 (a:Int),.int .i64 (m:Int),.int .i64 (b:Int),(.func (.func 32) #[] #[])] w λe w'=>e=.returned (.tuple #[])∧∃e:Nat→Nat,Same a b d e∧SoT (TQ λy=>(F y).p) e a b∧SoR w' g cap n F e∧Kept g w w':=by
 have HH:=aA h
 have HM:=aA hm
 clear h hm
 have HIH:=aA IH
 clear IH
 obtain⟨c,c1,c2⟩:∃c:Nat,2*c≤a+b∧a+b≤2*c+1:=⟨(a+b)/2,Yo,Yo⟩
 have c3:((a:Int)+(b:Int))/2=(c:Int):=Yo
 have em:¬(m:Int)-(a:Int)=1:=Yo
 have emb:((m:Int)-(a:Int)==1)=false:=beq_eq_false_iff_ne.2 em
 have eb:¬(b:Int)-(m:Int)=1:=Yo
 have ebb:((b:Int)-(m:Int)==1)=false:=beq_eq_false_iff_ne.2 eb
 go_enter Tryz.func66,Tryz.ntmps66
 go_upto_if 140 with fail
 go_cut [20,21] from 25 (λs t wx=>∃lo hi:Nat,s=.int .i64 (lo:Int)∧t=.int .i64 (hi:Int)∧lo≤hi∧hi≤b∧Hid (Lies a m b c lo hi)∧w=wx)
 case first=>
  by_cases hmid:c<m
  ·have hz:(c:Int)<(m:Int):=Yo
   have e1:(c:Int)+(m:Int)-(b:Int)=((c+m-b:Nat):Int):=Yo
   go_wp2_with fail
   go_meet
   case rel=>exact⟨c+m-b,c,by first|rfl|rw[e1],rfl,Yo,Yo,aA ⟨Or.inr ⟨hmid,Yo,rfl⟩,Yo,Yo,c1,c2⟩,rfl⟩
  ·have hz:¬(c:Int)<(m:Int):=Yo
   go_wp2_with fail
   go_meet
   case rel=>exact⟨a,m,rfl,rfl,Yo,Yo,aA ⟨Or.inl ⟨Yo,rfl,rfl⟩,Yo,Yo,c1,c2⟩,rfl⟩
 case rest=>
  obtain⟨lo,hi,rfl,rfl,hlh,hhb,HY,rfl⟩:=hcut
  go_wp2_with fail
  go_loopg [20,21] (hi-lo) (λq s20 s21 wr=>∃s r:Nat,s20=.int .i64 (s:Int)∧s21=.int .i64 (r:Int)∧s≤r∧r≤b∧r-s≤q∧Hid (SoR wr g cap n F d)∧Hid (Sch (TQ λy=>(F y).p) d (c+m-1) lo hi s r)∧Hid (Kept g w wr))
  case atStart=>exact⟨lo,hi,rfl,rfl,hlh,hhb,Yo,HH,aA (Sch.start hlh _),aA (Kept.of_below (Below.refl _ _))⟩
  case round=>
   clear HH
   obtain⟨s,r,rfl,rfl,hsr,hrb,hq,HS,HI,KS⟩:=hrel
   by_cases hlt:s<r
   ·have hltz:(s:Int)<(r:Int):=Yo
    obtain⟨x,x1,x2⟩:∃x:Nat,2*x≤s+r∧s+r≤2*x+1:=⟨(s+r)/2,Yo,Yo⟩
    have x3:((s:Int)+(r:Int))/2=(x:Int):=Yo
    have x4:x+1≤c+m∧c+m-1-x<n:=by have:=(unhide HI).h1;have:=(unhide HI).h3;have:=(unhide HY).h;omega
    by_cases hl:jX (F (d (c+m-1-x))).p (F (d (x))).p<0
    ·have HL:=aA hl
     clear hl
     go_wp2_with fail
     refine wp_leaves (λa0 a' w'=>SoR w' g cap n F (d)∧Kept g wr w'∧a'=((((((((((((((a0.put (some 158) (.func (.func 32) #[] #[])).put (some 159) (.slice (some ⟨g,0,none⟩) n cap)).put (some 160) (.int .i64 ((c:Int)+(m:Int)-1))).put (some 161) (.int .i64 ((x:Int)))).put (some 162) (.int .i64 ((c:Int)+(m:Int)-1-(x:Int)))).put (some 163) (.pointer (some ⟨g,(c+m-1-x)*5,none⟩))).put (some 164) (dZ (F (d (c+m-1-x))))).put (some 165) (.slice (some ⟨g,0,none⟩) n cap)).put (some 166) (.int .i64 ((x:Int)))).put (some 167) (.pointer (some ⟨g,(x)*5,none⟩))).put (some 168) (dZ (F (d (x))))).put (some 169) (.int .i64 (jX (F (d (c+m-1-x))).p (F (d (x))).p))).put (some 170) (.bool true)).put (some 171) (.bool false))) ?reg ?rest
     case reg=>
      intro A eA
      have b0:A.eval (.tmp 0)=(.slice (some ⟨g,0,none⟩) n cap):=by rw[eA];rfl
      have b4:A.eval (.tmp 4)=(.func (.func 32) #[] #[]):=by rw[eA];rfl
      have b22:A.eval (.tmp 22)=(.int .i64 ((c:Int)+(m:Int)-1)):=by rw[eA];rfl
      have b23:A.eval (.tmp 23)=(.int .i64 ((x:Int))):=by rw[eA];rfl
      have hs:220≤A.tmps.size:=by rw[eA];exact of_decide_eq_true rfl
      clear eA
      have hS:SoR wr.drew g cap n F (d):=unhide HS
      refine iQ (S:=λW=>SoR W g cap n F (d)) (.mv 0 (.mv 1 (.mv 2 (.mv 3 (.mv 4 (.mv 5 (.rd 6 (.mv 7 (.mv 8 (.mv 9 (.rd 10 (.go 11 (.mv 12 (.mv 13 .fin)))))))))))))) [] (by kernel_rfl) (by kernel_rfl) ?_
      refine aL (v:=(.func (.func 32) #[] #[])) rfl Yn Yw (λwx=>aH (.tmp 4) rfl b4 wx) ?_
      show SeqJ _ _ _ _ _ _ (Act.put _ (some 158) _) _
      refine aL (v:=(.slice (some ⟨g,0,none⟩) n cap)) rfl Yn Yw (λwx=>aH (.tmp 0) rfl (Ex b0) wx) ?_
      show SeqJ _ _ _ _ _ _ (Act.put _ (some 159) _) _
      refine aL (v:=(.int .i64 ((c:Int)+(m:Int)-1))) rfl Yn Yw (λwx=>aH (.tmp 22) rfl (Ex (Ex b22)) wx) ?_
      show SeqJ _ _ _ _ _ _ (Act.put _ (some 160) _) _
      refine aL (v:=(.int .i64 ((x:Int)))) rfl Yn Yw (λwx=>aH (.tmp 23) rfl (Ex (Ex (Ex b23))) wx) ?_
      show SeqJ _ _ _ _ _ _ (Act.put _ (some 161) _) _
      refine aL (v:=(.int .i64 ((c:Int)+(m:Int)-1-(x:Int)))) rfl Yn Yw (λwx=>nU (.tmp 160) (.tmp 161) rfl (Ex Es) Es Yo Yo wx) ?_
      show SeqJ _ _ _ _ _ _ (Act.put _ (some 162) _) _
      refine aL (v:=(.pointer (some ⟨g,(c+m-1-x)*5,none⟩))) rfl Yn Yw (λwx=>dK (i:=c+m-1-x) (.tmp 159) (.tmp 162) rfl (Ex (Ex (Ex Es))) Es Yo Yo wx) ?_
      show SeqJ _ _ _ _ _ _ (Act.put _ (some 163) _) _
      refine fC (v:=(dZ (F (d (c+m-1-x))))) rfl Yn Yw hS (λwx hx=>eO (.tmp 163) rfl Es hx Yo) ?_
      show SeqJ _ _ _ _ _ _ (Act.put _ (some 164) _) _
      refine aL (v:=(.slice (some ⟨g,0,none⟩) n cap)) rfl Yn Yw (λwx=>aH (.tmp 0) rfl (Ex (Ex (Ex (Ex (Ex (Ex (Ex b0))))))) wx) ?_
      show SeqJ _ _ _ _ _ _ (Act.put _ (some 165) _) _
      refine aL (v:=(.int .i64 ((x:Int)))) rfl Yn Yw (λwx=>aH (.tmp 23) rfl (Ex (Ex (Ex (Ex (Ex (Ex (Ex (Ex b23)))))))) wx) ?_
      show SeqJ _ _ _ _ _ _ (Act.put _ (some 166) _) _
      refine aL (v:=(.pointer (some ⟨g,(x)*5,none⟩))) rfl Yn Yw (λwx=>dK (i:=x) (.tmp 165) (.tmp 166) rfl (Ex Es) Es Yo Yo wx) ?_
      show SeqJ _ _ _ _ _ _ (Act.put _ (some 167) _) _
      refine fC (v:=(dZ (F (d (x))))) rfl Yn Yw hS (λwx hx=>eO (.tmp 167) rfl Es hx Yo) ?_
      show SeqJ _ _ _ _ _ _ (Act.put _ (some 168) _) _
      refine kH rfl Yw (λK hK=>?_)
      refine mG _ (.tmp 158) (.tmp 164) (.tmp 168) _ rfl (Ex (Ex (Ex (Ex (Ex (Ex (Ex (Ex (Ex (Ex Et)))))))))) (Ex (Ex (Ex (Ex Es)))) Es (lF (F (d (c+m-1-x))).p (F (d (x))).p _ _ _ _ _ _ _) ?_
      rintro e w1 ⟨rfl,k1⟩
      have h1:=hS.below k1
      refine⟨_,rfl,?_⟩
      refine hK _ _ (λ_ _=>h1) ?_
      clear hK K
      show SeqJ _ _ _ _ _ _ (Act.put _ (some 169) _) _
      refine aL (v:=(.bool true)) rfl Yn Yw (λwx=>fH (.tmp 169) (.const (.int .i64 0)) rfl Es rfl (decide_eq_true (unhide HL)) wx) ?_
      show SeqJ _ _ _ _ _ _ (Act.put _ (some 170) _) _
      refine aL (v:=(.bool false)) rfl Yn Yw (λwx=>dQ (.tmp 170) _ rfl Es wx) ?_
      show SeqJ _ _ _ _ _ _ (Act.put _ (some 171) _) _
      exact jV ⟨rfl,h1,Kept.of_below (show Below wr.heap.size wr w1 from (aQ (Below.refl _ _)).trans k1),rfl⟩
     case rest=>
      rintro a' w2 ⟨m2,k2,rfl⟩
      have HS2:=aA m2
      have KS2:=aA ((unhide KS).trans k2 (Or.inl rfl))
      clear m2 k2
      go_frame
      go_wp2_with fail
      go_roundg (x-s)
      case measure=>omega
      case rel=>exact⟨s,x,rfl,rfl,Yo,Yo,Yo,HS2,aA ((unhide HI).down (lH _) (unhide HY) (unhide HM) Yo Yo (aCh (q:=λy=>(F y).p) (unhide HL))),KS2⟩
    ·have HL:=aA (Int.not_lt.1 hl)
     clear hl
     go_wp2_with fail
     refine wp_leaves (λa0 a' w'=>SoR w' g cap n F (d)∧Kept g wr w'∧a'=((((((((((((((a0.put (some 158) (.func (.func 32) #[] #[])).put (some 159) (.slice (some ⟨g,0,none⟩) n cap)).put (some 160) (.int .i64 ((c:Int)+(m:Int)-1))).put (some 161) (.int .i64 ((x:Int)))).put (some 162) (.int .i64 ((c:Int)+(m:Int)-1-(x:Int)))).put (some 163) (.pointer (some ⟨g,(c+m-1-x)*5,none⟩))).put (some 164) (dZ (F (d (c+m-1-x))))).put (some 165) (.slice (some ⟨g,0,none⟩) n cap)).put (some 166) (.int .i64 ((x:Int)))).put (some 167) (.pointer (some ⟨g,(x)*5,none⟩))).put (some 168) (dZ (F (d (x))))).put (some 169) (.int .i64 (jX (F (d (c+m-1-x))).p (F (d (x))).p))).put (some 170) (.bool false)).put (some 171) (.bool true))) ?reg ?rest
     case reg=>
      intro A eA
      have b0:A.eval (.tmp 0)=(.slice (some ⟨g,0,none⟩) n cap):=by rw[eA];rfl
      have b4:A.eval (.tmp 4)=(.func (.func 32) #[] #[]):=by rw[eA];rfl
      have b22:A.eval (.tmp 22)=(.int .i64 ((c:Int)+(m:Int)-1)):=by rw[eA];rfl
      have b23:A.eval (.tmp 23)=(.int .i64 ((x:Int))):=by rw[eA];rfl
      have hs:220≤A.tmps.size:=by rw[eA];exact of_decide_eq_true rfl
      clear eA
      have hS:SoR wr.drew g cap n F (d):=unhide HS
      refine iQ (S:=λW=>SoR W g cap n F (d)) (.mv 0 (.mv 1 (.mv 2 (.mv 3 (.mv 4 (.mv 5 (.rd 6 (.mv 7 (.mv 8 (.mv 9 (.rd 10 (.go 11 (.mv 12 (.mv 13 .fin)))))))))))))) [] (by kernel_rfl) (by kernel_rfl) ?_
      refine aL (v:=(.func (.func 32) #[] #[])) rfl Yn Yw (λwx=>aH (.tmp 4) rfl b4 wx) ?_
      show SeqJ _ _ _ _ _ _ (Act.put _ (some 158) _) _
      refine aL (v:=(.slice (some ⟨g,0,none⟩) n cap)) rfl Yn Yw (λwx=>aH (.tmp 0) rfl (Ex b0) wx) ?_
      show SeqJ _ _ _ _ _ _ (Act.put _ (some 159) _) _
      refine aL (v:=(.int .i64 ((c:Int)+(m:Int)-1))) rfl Yn Yw (λwx=>aH (.tmp 22) rfl (Ex (Ex b22)) wx) ?_
      show SeqJ _ _ _ _ _ _ (Act.put _ (some 160) _) _
      refine aL (v:=(.int .i64 ((x:Int)))) rfl Yn Yw (λwx=>aH (.tmp 23) rfl (Ex (Ex (Ex b23))) wx) ?_
      show SeqJ _ _ _ _ _ _ (Act.put _ (some 161) _) _
      refine aL (v:=(.int .i64 ((c:Int)+(m:Int)-1-(x:Int)))) rfl Yn Yw (λwx=>nU (.tmp 160) (.tmp 161) rfl (Ex Es) Es Yo Yo wx) ?_
      show SeqJ _ _ _ _ _ _ (Act.put _ (some 162) _) _
      refine aL (v:=(.pointer (some ⟨g,(c+m-1-x)*5,none⟩))) rfl Yn Yw (λwx=>dK (i:=c+m-1-x) (.tmp 159) (.tmp 162) rfl (Ex (Ex (Ex Es))) Es Yo Yo wx) ?_
      show SeqJ _ _ _ _ _ _ (Act.put _ (some 163) _) _
      refine fC (v:=(dZ (F (d (c+m-1-x))))) rfl Yn Yw hS (λwx hx=>eO (.tmp 163) rfl Es hx Yo) ?_
      show SeqJ _ _ _ _ _ _ (Act.put _ (some 164) _) _
      refine aL (v:=(.slice (some ⟨g,0,none⟩) n cap)) rfl Yn Yw (λwx=>aH (.tmp 0) rfl (Ex (Ex (Ex (Ex (Ex (Ex (Ex b0))))))) wx) ?_
      show SeqJ _ _ _ _ _ _ (Act.put _ (some 165) _) _
      refine aL (v:=(.int .i64 ((x:Int)))) rfl Yn Yw (λwx=>aH (.tmp 23) rfl (Ex (Ex (Ex (Ex (Ex (Ex (Ex (Ex b23)))))))) wx) ?_
      show SeqJ _ _ _ _ _ _ (Act.put _ (some 166) _) _
      refine aL (v:=(.pointer (some ⟨g,(x)*5,none⟩))) rfl Yn Yw (λwx=>dK (i:=x) (.tmp 165) (.tmp 166) rfl (Ex Es) Es Yo Yo wx) ?_
      show SeqJ _ _ _ _ _ _ (Act.put _ (some 167) _) _
      refine fC (v:=(dZ (F (d (x))))) rfl Yn Yw hS (λwx hx=>eO (.tmp 167) rfl Es hx Yo) ?_
      show SeqJ _ _ _ _ _ _ (Act.put _ (some 168) _) _
      refine kH rfl Yw (λK hK=>?_)
      refine mG _ (.tmp 158) (.tmp 164) (.tmp 168) _ rfl (Ex (Ex (Ex (Ex (Ex (Ex (Ex (Ex (Ex (Ex Et)))))))))) (Ex (Ex (Ex (Ex Es)))) Es (lF (F (d (c+m-1-x))).p (F (d (x))).p _ _ _ _ _ _ _) ?_
      rintro e w1 ⟨rfl,k1⟩
      have h1:=hS.below k1
      refine⟨_,rfl,?_⟩
      refine hK _ _ (λ_ _=>h1) ?_
      clear hK K
      show SeqJ _ _ _ _ _ _ (Act.put _ (some 169) _) _
      refine aL (v:=(.bool false)) rfl Yn Yw (λwx=>fH (.tmp 169) (.const (.int .i64 0)) rfl Es rfl (decide_eq_false (Int.not_lt.2 (unhide HL))) wx) ?_
      show SeqJ _ _ _ _ _ _ (Act.put _ (some 170) _) _
      refine aL (v:=(.bool true)) rfl Yn Yw (λwx=>dQ (.tmp 170) _ rfl Es wx) ?_
      show SeqJ _ _ _ _ _ _ (Act.put _ (some 171) _) _
      exact jV ⟨rfl,h1,Kept.of_below (show Below wr.heap.size wr w1 from (aQ (Below.refl _ _)).trans k1),rfl⟩
     case rest=>
      rintro a' w2 ⟨m2,k2,rfl⟩
      have HS2:=aA m2
      have KS2:=aA ((unhide KS).trans k2 (Or.inl rfl))
      clear m2 k2
      go_frame
      go_wp2_with fail
      go_roundg (r-(x+1))
      case measure=>omega
      case rel=>exact⟨x+1,r,by go_num,rfl,Yo,Yo,Yo,HS2,aA ((unhide HI).up (lH _) (unhide HY) (unhide HM) Yo Yo (aDG (q:=λy=>(F y).p) ((unhide HM).x x (c+m-1-x) (by have:=(unhide HI).h1;have:=(unhide HY).h;omega) (by have:=(unhide HI).h3;have:=(unhide HY).h;omega) (by have:=(unhide HI).h3;have:=(unhide HY).h;omega) (by have:=(unhide HI).h1;have:=(unhide HY).h;omega)) (Int.not_lt.2 (unhide HL)))),KS2⟩
   ·have hltz:¬(s:Int)<(r:Int):=Yo
    obtain rfl:s=r:=Yo
    obtain⟨E,eE⟩:∃E:Nat,E+s=c+m:=⟨c+m-s,by have:=(unhide HI).h1;have:=(unhide HI).h3;have:=(unhide HY).h;omega⟩
    have eE2:(c:Int)+(m:Int)-(s:Int)=(E:Int):=Yo
    have X:=aQY (lH _) (unhide HY) (unhide HM) (unhide HI) eE
    obtain⟨⟨s1,s2,s3⟩,⟨E1,E2,E3⟩,ml,mr,mx⟩:=X
    have ML:=aA ml;have MR:=aA mr;have MX:=aA mx
    have EE:=aA eE
    clear ml mr mx eE
    go_upto_region 38 with fail
    go_cut [24] from 25 (λt wx=>t=.int .i64 (E:Int)∧wr=wx)
    case first=>
     go_wp2_with fail
     go_meet
     case rel=>exact⟨rfl,rfl⟩
    case rest=>
     obtain⟨rfl,rfl⟩:=hcut
     refine ‹∀(a:Act) (w:World),Code.wp Tryz.prog _ _ a w→_› _ _ ?_
     refine aFJ g cap n F d a m b c s E w wr (unhide HS) (unhide KS) (unhide ML) (unhide MR) (unhide MX) s1 s2 s3 E1 E2 E3 h3 hn Yo (unhide HIH) _ _ (by rfl) (by rfl) (by rfl) (by rfl) (by rfl) (by rfl) (by rfl) (by rfl) (by exact of_decide_eq_true rfl) ?_
     intro a' w' hd hp
     refine bodyPost_end (results_none (fn:=Tryz.f66) rfl _ _ _) hd ?_
     exact⟨rfl,hp⟩
theorem aAL (g cap n : Nat) (F : Nat → Lp) (hn : n ≤ 2513169434843) : ∀ (N : Nat) (d : Nat → Nat) (a m b : Nat) (w : World), b - a ≤ N → SoR w g cap n F d → Mg (TQ λy => (F y).p) d a m b → a < m → m < b → b ≤ n →
  Calls Tryz.prog 66 #[.slice (some ⟨g,0,none⟩) n cap,.int .i64 (a:Int),.int .i64 (m:Int),.int .i64 (b:Int),(.func (.func 32) #[] #[])] w λe w'=>e=.returned (.tuple #[])∧∃e:Nat→Nat,Same a b d e∧SoT (TQ λy=>(F y).p) e a b∧SoR w' g cap n F e∧Kept g w w':=by
 intro N
 induction N with
 |zero=>intro d a m b w hN _ _ h1 h2;omega
 |succ N ih=>
  intro d a m b w hN h hm h1 h2 h3
  by_cases c1:m≤a+1
  ·exact aHL g cap n F d a m b w h hm h1 h2 h3 hn c1
  ·by_cases c2:b≤m+1
   ·exact aFQ g cap n F d a m b w h hm h2 h3 hn Yo c2
   ·exact aHz g cap n F d a m b w h hm h3 hn Yo Yo (λd' a' m' b' w' hl=>ih d' a' m' b' w' Yo)
theorem aCH(v:Value)(w:World):Calls Tryz.prog 65 #[v,.int .i64 0,.int .i64 0,(.func (.func 32) #[] #[])] w λe w'=>e=.returned (.tuple #[])∧w'=w:=by
 go_enter Tryz.func65,Tryz.ntmps65
 go_wp2_with fail
 go_loopg [8] 0 (λ_ s8 wr=>s8=.int .i64 1∧w=wr)
 case atStart=>exact⟨rfl,rfl⟩
 case round=>
  obtain⟨rfl,rfl⟩:=hrel
  go_wp2_with fail
  go_end0
  exact⟨rfl,rfl⟩
theorem aFN(v:Value)(w:World):Calls Tryz.prog 44 #[v,.int .i64 0,(.func (.func 32) #[] #[])] w λe w'=>e=.returned (.tuple #[])∧w'=w:=by
 have C:=aCH v w
 go_enter Tryz.func44,Tryz.ntmps44
 go_wp2_with fail
 go_loopg [7,8] 0 (λ_ s7 s8 wr=>s7=.int .i64 0∧s8=.int .i64 20∧w=wr)
 case atStart=>exact⟨rfl,rfl,rfl⟩
 case round=>
  obtain⟨rfl,rfl,rfl⟩:=hrel
  go_wp2_with fail
  refine C.mono ?_
  rintro e w2 ⟨rfl,rfl⟩
  clear C
  go_wp2_with fail
  go_loopg [6] 0 (λ_ s6 wr=>s6=.int .i64 20∧w2=wr)
  case atStart=>exact⟨rfl,rfl⟩
  case round=>
   obtain⟨rfl,rfl⟩:=hrel
   go_wp2_with fail
   go_end0
   exact⟨rfl,rfl⟩
set_option maxHeartbeats 4000000 in
set_option maxRecDepth 1000000 in
theorem aHg (g cap n : Nat) (F : Nat → Lp) (w : World) (h : SoR w g cap n F (λx => x)) (hn : n ≤ 2513169434843) :
  Calls Tryz.prog 44 #[.slice (some ⟨g,0,none⟩) n cap,.int .i64 (n:Int),(.func (.func 32) #[] #[])] w λe w'=>e=.returned (.tuple #[])∧∃e:Nat→Nat,Done (TQ λy=>(F y).p) e 0 n∧SoR w' g cap n F e∧Kept g w w':=by
 have HH:=aA h
 clear h
 go_enter Tryz.func44,Tryz.ntmps44
 go_wp2_with fail
 go_loopg [7,8] n (λr s7 s8 wr=>∃(a q:Nat) (dk:Nat→Nat),s7=.int .i64 (a:Int)∧s8=.int .i64 ((a:Int)+20)∧a≤n∧n-a≤r∧Hid (a=q*20)∧Hid (Ps1 (TQ λy=>(F y).p) 20 q dk)∧Hid (SoR wr g cap n F dk)∧Hid (Kept g w wr))
 case atStart=>exact⟨0,0,λx=>x,rfl,rfl,Yo,Yo,aA rfl,aA (Ps1.start 20),HH,aA (Kept.of_below (Below.refl _ _))⟩
 case round=>
  clear HH
  obtain⟨a,q,dk,rfl,rfl,han,hr,HA,HP,HS,KS⟩:=hrel
  by_cases hb:a+20≤n
  ·have hbz:(a:Int)+20≤(n:Int):=Yo
   have hcall:=aAj g cap n F dk a (a+20) wr (unhide HS) Yo hb hn (λx y x1 x2 x3=>by rw[(unhide HP).un x (by rw[←unhide HA];exact x1),(unhide HP).un y (by rw[←unhide HA];omega)];exact x2)
   rw[show ((a+20:Nat):Int)=(a:Int)+20 by omega] at hcall
   go_wp2_with fail
   refine hcall.mono ?_
   rintro e w2 ⟨rfl,e2,y2,t2,m2,k2⟩
   have HP2:Hid (Ps1 (TQ λy=>(F y).p) 20 (q+1) e2):=aA (by
    have ea:=unhide HA
    rw[ea] at y2 t2
    exact (unhide HP).step y2 t2)
   have HS2:=aA m2
   have KS2:=aA ((unhide KS).trans k2 (Or.inl rfl))
   clear m2 k2 y2 t2 hcall
   go_wp2_with fail
   go_roundg (n-(a+20))
   case measure=>omega
   case rel=>exact⟨a+20,q+1,e2,by go_num,by first|rfl|(congr 1;omega),hb,Yo,aA (by have:=unhide HA;omega),HP2,HS2,KS2⟩
  ·have hbz:¬(a:Int)+20≤(n:Int):=Yo
   have hcall:=aAj g cap n F dk a n wr (unhide HS) han (Nat.le_refl _) hn (λx y x1 x2 x3=>by rw[(unhide HP).un x (by rw[←unhide HA];exact x1),(unhide HP).un y (by rw[←unhide HA];omega)];exact x2)
   go_wp2_with fail
   refine hcall.mono ?_
   rintro e w2 ⟨rfl,e2,y2,t2,m2,k2⟩
   have HB:Hid (AllB (TQ λy=>(F y).p) 20 n e2):=aA (by
    have ea:=unhide HA
    rw[ea] at y2 t2
    exact (unhide HP).done Yo Yo y2 t2)
   have HS2:=aA m2
   have KS2:=aA ((unhide KS).trans k2 (Or.inl rfl))
   clear m2 k2 y2 t2 hcall HP HS KS HA
   go_wp2_with fail
   go_loopg [6] n (λr s6 wr=>∃(s:Nat) (dk:Nat→Nat),s6=.int .i64 (s:Int)∧0<s∧s≤2*n+20∧n-s≤r∧Hid (AllB (TQ λy=>(F y).p) s n dk)∧Hid (SoR wr g cap n F dk)∧Hid (Kept g w wr))
   case atStart=>exact⟨20,e2,rfl,Yo,Yo,Yo,HB,HS2,KS2⟩
   case round=>
    clear HB HS2 KS2
    obtain⟨s,dk,rfl,hs0,hs1,hr,HB,HS,KS⟩:=hrel
    by_cases hsn:s<n
    ·have hsz:(s:Int)<(n:Int):=Yo
     go_wp2_with fail
     go_loopg [7,8] n (λr s7 s8 wr=>∃(a q bb:Nat) (dk:Nat→Nat),s7=.int .i64 (a:Int)∧s8=.int .i64 (bb:Int)∧bb≤a+2*s∧a+2*s≤bb∧a≤n∧n-a≤r∧Hid (a=q*(2*s))∧Hid (Ps2 (TQ λy=>(F y).p) s q n dk)∧Hid (SoR wr g cap n F dk)∧Hid (Kept g w wr))
     case atStart=>exact⟨0,0,2*s,dk,rfl,by first|rfl|(congr 1;omega),Yo,Yo,Yo,Yo,aA Yo,aA (Ps2.start (unhide HB)),HS,KS⟩
     case round=>
      clear HB HS KS
      obtain⟨a,q,bb,dk,rfl,rfl,hb1,hb2,han,hr2,HA,HP,HS,KS⟩:=hrel
      by_cases hbn:bb≤n
      ·have hbz:(bb:Int)≤(n:Int):=Yo
       have hmg:Mg (TQ λy=>(F y).p) dk a (a+s) bb:=by
        have ea:=unhide HA
        have hl:=(unhide HP).left Yo hs0
        have hr:=(unhide HP).right Yo
        rw[←ea] at hl hr
        rw[Nat.min_eq_left Yo,show a+2*s=bb by omega] at hr
        exact hl.mg hr
       have hcall:=aAL g cap n F hn n dk a (a+s) bb wr Yo (unhide HS) hmg Yo Yo hbn
       rw[show ((a+s:Nat):Int)=(a:Int)+(s:Int) by omega] at hcall
       clear hmg
       go_wp2_with fail
       refine hcall.mono ?_
       rintro e w2 ⟨rfl,e2,y2,t2,m2,k2⟩
       have HP2:Hid (Ps2 (TQ λy=>(F y).p) s (q+1) n e2):=aA (by
        have ea:=unhide HA
        rw[show bb=a+2*s by omega,ea] at y2 t2
        exact (unhide HP).step hs0 Yo y2 t2)
       have HS2:=aA m2
       have KS2:=aA ((unhide KS).trans k2 (Or.inl rfl))
       clear m2 k2 y2 t2 hcall
       go_wp2_with fail
       go_roundg (n-bb)
       case measure=>omega
       case rel=>exact⟨bb,q+1,bb+2*s,e2,rfl,by first|rfl|(congr 1;omega),Yo,Yo,hbn,Yo,aA (by have:=unhide HA;rw[Nat.add_mul];omega),HP2,HS2,KS2⟩
      ·have hbz:¬(bb:Int)≤(n:Int):=Yo
       by_cases hm:a+s<n
       ·have hmz:(a:Int)+(s:Int)<(n:Int):=Yo
        have hmg:Mg (TQ λy=>(F y).p) dk a (a+s) n:=by
         have ea:=unhide HA
         have hl:=(unhide HP).left Yo hs0
         have hr:=(unhide HP).right Yo
         rw[←ea] at hl hr
         rw[Nat.min_eq_right Yo] at hr
         exact hl.mg hr
        have hcall:=aAL g cap n F hn n dk a (a+s) n wr Yo (unhide HS) hmg Yo hm (Nat.le_refl _)
        rw[show ((a+s:Nat):Int)=(a:Int)+(s:Int) by omega] at hcall
        clear hmg
        go_wp2_with fail
        refine hcall.mono ?_
        rintro e w2 ⟨rfl,e2,y2,t2,m2,k2⟩
        have HB2:Hid (AllB (TQ λy=>(F y).p) (2*s) n e2):=aA (by
         have ea:=unhide HA
         rw[ea] at y2 t2
         exact (unhide HP).last hs0 Yo Yo y2 t2)
        have HS2:=aA m2
        have KS2:=aA ((unhide KS).trans k2 (Or.inl rfl))
        clear m2 k2 y2 t2 hcall
        go_wp2_with fail
        go_roundg (n-2*s)
        case measure=>omega
        case rel=>exact⟨2*s,e2,by first|rfl|(congr 1;omega),Yo,Yo,Yo,HB2,HS2,KS2⟩
       ·have hmz:¬(a:Int)+(s:Int)<(n:Int):=Yo
        have HB2:Hid (AllB (TQ λy=>(F y).p) (2*s) n dk):=aA (by
         have ea:=unhide HA
         exact (unhide HP).done Yo Yo Yo)
        go_wp2_with fail
        go_roundg (n-2*s)
        case measure=>omega
        case rel=>exact⟨2*s,dk,by first|rfl|(congr 1;omega),Yo,Yo,Yo,HB2,HS,KS⟩
    ·have hsz:¬(s:Int)<(n:Int):=Yo
     go_wp2_with fail
     go_end0
     exact⟨rfl,dk,(unhide HB).done Yo,unhide HS,unhide KS⟩
theorem aCj (w : World) (B : Nat) (v : Value) (L : List Lp) (h : RowP w B v L) (hl : L.length ≤ 2513169434843) :
  Calls Tryz.prog 31 #[v,(.func (.func 32) #[] #[])] w λe w'=>e=.returned (.tuple #[])∧∃L':List Lp,L'.map Lp.p=xV (L.map Lp.p)∧(∀c,c∈L'→c∈L)∧L'.length=L.length∧RowP w' B v L'∧((v.ownBlock=none∧w'=w)∨∃g,v.ownBlock=some g∧Kept g w w'):=by
 rcases h.2 with ⟨rfl,h0⟩|⟨g,cap,cur,rfl,hb,_⟩
 ·have C:=aFN (.slice none 0 0) w
  have eL:L=[]:=List.length_eq_zero_iff.1 h0
  subst eL
  have H:=aA h
  clear h h0
  go_enter Tryz.func31,Tryz.ntmps31
  go_wp2_with fail
  refine C.mono ?_
  rintro e w2 ⟨rfl,rfl⟩
  go_wp2_with fail
  go_end0
  exact⟨rfl,[],rfl,λc hc=>hc,rfl,unhide H,Or.inl ⟨rfl,rfl⟩⟩
 ·have hs:=aRV h
  have C:=aHg g cap L.length (λi=>L.getD i lp0) w hs hl
  obtain⟨nn,en⟩:∃nn,nn=L.length:=⟨_,rfl⟩
  rw[←en] at C ⊢
  have EN:=aA en
  clear h hs en
  have hL:=aA hl
  have HB:=aA hb
  clear hl hb
  go_enter Tryz.func31,Tryz.ntmps31
  go_wp2_with fail
  refine C.mono ?_
  rintro e w2 ⟨rfl,e2,d2,m2,k2⟩
  have D2:=aA d2;have M2:=aA m2;have K2:=aA k2
  clear C d2 m2 k2
  go_wp2_with fail
  go_end0
  have en:=unhide EN
  subst en
  have hmap:L.map Lp.p=(List.range L.length).map (λi=>(L.getD i lp0).p):=by
   refine List.ext_getElem? λi=>?_
   rw[List.getElem?_map,List.getElem?_map]
   by_cases hi:i<L.length
   ·rw[List.getElem?_range hi,List.getElem?_eq_getElem hi]
    simp[List.getD_eq_getElem?_getD,hi]
   ·rw[List.getElem?_eq_none Yo,List.getElem?_eq_none (by rw[List.length_range];omega)]
    rfl
  refine⟨rfl,(List.range L.length).map (λi=>L.getD (e2 i) lp0),?_,?_,by rw[List.length_map,List.length_range],?_,Or.inr ⟨g,rfl,unhide K2⟩⟩
  ·rw[hmap,List.map_map]
   exact aKt (q:=λi=>(L.getD i lp0).p) (unhide D2)
  ·intro c hc
   obtain⟨i,hi,rfl⟩:=List.mem_map.1 hc
   have hlt:=((unhide D2).inn i Yo (List.mem_range.1 hi)).2
   rw[List.getD_eq_getElem?_getD,List.getElem?_eq_getElem hlt]
   exact List.getElem_mem hlt
  ·have:=(unhide M2).row (unhide HB)
   exact this
def PQ(p:Pc)(x o:Nat)(u:Value)(y r:Nat)(v:Value)(w:World):Prop:=PcAt w x o p u∧PcAt w y r p v
theorem PQ.below{p:Pc}{x o y r:Nat}{u v:Value}{w w':World}(h:PQ p x o u y r v w)(k:Below w.heap.size w w'):PQ p x o u y r v w':=⟨h.1.below k,h.2.below k⟩
theorem PQ.kept{p:Pc}{x o y r z:Nat}{u v:Value}{w w':World}(h:PQ p x o u y r v w)(k:Kept z w w')(h1:x≠z)(h2:y≠z):PQ p x o u y r v w':=
 ⟨h.1.same (k.block x h.1.lt h1),h.2.same (k.block y h.2.lt h2)⟩
theorem PvAt.cells{w:World}{b:Nat}{p:Pc}{v:Value}(h:PvAt w b p v):w.cell? ⟨b,0,none⟩=some (.int .i64 p.fr)∧w.cell? ⟨b,1,none⟩=some (.int .i64 p.to)∧w.cell? ⟨b,2,none⟩=some (.int .i64 p.du)∧w.cell? ⟨b,3,none⟩=some (.int .i64 p.se)∧w.cell? ⟨b,4,none⟩=some v:=by
 have:=h.pc
 unfold PcAt at this
 simp only[Nat.zero_add] at this
 exact this
def CpI(w:World)(N S:Int)(u v:Value)(L:List Lp)(W:World):Prop:=
 BuAt W w.heap.size N S u∧BuAt W (w.heap.size+1) 0 0 (.slice none 0 0)∧BuAt W (w.heap.size+1+1) N S v∧OwnQ W (w.heap.size+1+1+1) v L∧Below w.heap.size w W∧w.heap.size+1+1+1≤W.heap.size
section
variable {w W W':World} {N S:Int} {u v:Value} {L:List Lp}
theorem CpI.below(h:CpI w N S u v L W)(k:Below W.heap.size W W'):CpI w N S u v L W':=
 ⟨h.1.below k,h.2.1.below k,h.2.2.1.below k,h.2.2.2.1.below k,h.2.2.2.2.1.trans (k.mono (by have:=h.2.2.2.2.2;omega)),Nat.le_trans h.2.2.2.2.2 k.size⟩
theorem CpI.kept{z:Nat}(h:CpI w N S u v L W)(k:Kept z W W')(hz:w.heap.size+1+1+1≤z)(hq:∀g,v.ownBlock=some g→g≠z)(hb:∀c,c∈L→∀g,(iG c).ownBlock=some g→g≠z):CpI w N S u v L W':=
 ⟨h.1.kept k Yo,h.2.1.kept k Yo,h.2.2.1.kept k Yo,⟨fJ h.2.2.2.1.1 k (λe=>hq z e rfl),λc hc=>fJ (h.2.2.2.1.2.1 c hc) k (λe=>hb c hc z e rfl),h.2.2.2.1.2.2⟩,aC h.2.2.2.2.1 k Yo h.2.2.2.2.1.size,Nat.le_trans h.2.2.2.2.2 k.size⟩
end
theorem aCy(w:World)(N S:Int)(u:Value):∃w1,w1=((w.alloc (.cells #[.int .i64 N,.int .i64 S,u] 74)).alloc (.cells #[.int .i64 0,.int .i64 0,.slice none 0 0] 74))∧BuAt w1 w.heap.size N S u∧BuAt w1 (w.heap.size+1) 0 0 (.slice none 0 0)∧Below w.heap.size w w1∧w1.heap.size=w.heap.size+1+1:=by
 obtain⟨w1,e1,m1,k1,s1⟩:=aEL w N S u
 obtain⟨w2,e2,m2,k2,s2⟩:=aEL w1 0 0 (.slice none 0 0)
 subst e1
 rw[s1] at m2
 exact⟨w2,e2,m1.below k2,m2,k1.trans (k2.mono Yo),Yo⟩
theorem aAE {b : Bs} {f t d : Int} {ds : List Nat} {w w' : World} {e : Nat} (he : kJ b.now b.q.length f t d ds.length = e) (h0 : e ≠ 0) (k : Below w.heap.size w w') :
  ∃(ao':Option Addr) (cap':Nat) (L':List Lp),Ending.returned (.tuple #[.agg #[.int .i64 0,.int .i64 0,.slice none 0 0],.int .i64 (e:Nat)])=.returned (.tuple #[lI (lC b f t ds d).now (lC b f t ds d).ser (.slice ao' L'.length cap'),.int .i64 (kJ b.now b.q.length f t d ds.length:Nat)])∧These L' (lC b f t ds d).q∧BNew w.heap.size w' ao' cap' L'∧Below w.heap.size w w':=by
 have hz:lC b f t ds d=jG:=by unfold lC;rw[if_neg (by rw[he];exact h0)]
 rw[hz,he]
 exact⟨none,0,[],rfl,rfl,zG _ _,k⟩
theorem aOv {b : Bs} {f t d : Int} {ds : List Nat} {w w' : World} (he : kJ b.now b.q.length f t d ds.length = 0) {ao : Option Addr} {cap : Nat} {L : List Lp} {B : Nat} (o : OwnQ w' B (.slice ao L.length cap) L) (hB : w.heap.size ≤ B) (ht : These L (b.q ++ [⟨f, t, b.now + d, b.ser, ds⟩])) (k : Below w.heap.size w w') {X : Int} (hX : X = lV b.ser) {n : Nat} (hn : L.length = n) :
  ∃(ao':Option Addr) (cap':Nat) (L':List Lp),Ending.returned (.tuple #[.agg #[.int .i64 b.now,.int .i64 X,.slice ao n cap],.int .i64 0])=.returned (.tuple #[lI (lC b f t ds d).now (lC b f t ds d).ser (.slice ao' L'.length cap'),.int .i64 (kJ b.now b.q.length f t d ds.length:Nat)])∧These L' (lC b f t ds d).q∧BNew w.heap.size w' ao' cap' L'∧Below w.heap.size w w':=by
 have hz:lC b f t ds d=⟨b.now,lV b.ser,b.q++[⟨f,t,b.now+d,b.ser,ds⟩]⟩:=by unfold lC;rw[if_pos he]
 rw[hz,he,hX, ←hn]
 exact⟨ao,cap,L,rfl,ht,o.new.weak hB,k⟩
def LsI(w:World)(g:Nat)(N S:Int)(v:Value)(M:List Lp)(W:World):Prop:=
 BuAt W (w.heap.size+1) 0 0 (.slice none 0 0)∧BuAt W g N S v∧OwnQ W (w.heap.size+1+1) v M∧Below w.heap.size w W∧w.heap.size+1+1≤g
section
variable {w W W':World} {g:Nat} {N S:Int} {v:Value} {M:List Lp}
theorem LsI.below(h:LsI w g N S v M W)(k:Below W.heap.size W W'):LsI w g N S v M W':=
 ⟨h.1.below k,h.2.1.below k,h.2.2.1.below k,h.2.2.2.1.trans (k.mono h.2.2.2.1.size),h.2.2.2.2⟩
end
theorem aBn{w:World}{t:TypeId}{B n cap s:Nat}{ao:Option Addr}{xs:List Value}(h:w.ownsRow B t s (.slice ao n cap) n xs)(hn:0<n):∃g,ao=some ⟨g,0,none⟩:=by
 rcases h.2 with ⟨_,h0⟩|⟨g,c,cur,e,_⟩
 ·omega
 ·cases e;exact⟨g,rfl⟩
def StI(w:World)(g:Nat)(t S:Int)(vq:Value)(M:List Lp)(vC:Value)(C:List Lp)(W:World):Prop:=
 BuAt W (w.heap.size+1) 0 0 (.slice none 0 0)∧BuAt W g t S vq∧RowP W (w.heap.size+1+1) vq M∧RowP W (g+1) vC C∧(∀c,c∈M∨c∈C→OwnB W (w.heap.size+1+1) c)∧Below w.heap.size w W∧w.heap.size+1+1≤g∧g<W.heap.size∧∀k,vq.ownBlock=some k→k<g
section
variable {w W W':World} {g:Nat} {t S:Int} {vq vC:Value} {M C:List Lp}
theorem StI.below(h:StI w g t S vq M vC C W)(k:Below W.heap.size W W'):StI w g t S vq M vC C W':=
 ⟨h.1.below k,h.2.1.below k,mO h.2.2.1 k,mO h.2.2.2.1 k,λc hc=>(h.2.2.2.2.1 c hc).below k,h.2.2.2.2.2.1.trans (k.mono h.2.2.2.2.2.1.size),h.2.2.2.2.2.2.1,Nat.lt_of_lt_of_le h.2.2.2.2.2.2.2.1 k.size,h.2.2.2.2.2.2.2.2⟩
theorem StI.drew(h:StI w g t S vq M vC C W):StI w g t S vq M vC C W.drew:=
 ⟨h.1,h.2.1,h.2.2.1,h.2.2.2.1,h.2.2.2.2.1,aQ h.2.2.2.2.2.1,h.2.2.2.2.2.2.1,h.2.2.2.2.2.2.2.1,h.2.2.2.2.2.2.2.2⟩
theorem OwnB.other{B k:Nat}{c:Lp}{v:Value}{n:Nat}{xs:List Value}(h:OwnB W B c)(o:W.ownsRow k 82 5 v n xs)(gr:W.grownBy W' v.ownBlock):OwnB W' B c:=
 qW h gr (λb hb e=>by
  obtain⟨u1,h1⟩:=gP h hb
  obtain⟨u2,h2⟩:=gP o e
  rw[h1] at h2;cases h2)
theorem OwnB.otherB{B b:Nat}{c:Lp}{N S:Int}{r:Value}(h:OwnB W B c)(m:BuAt W b N S r)(k:Kept b W W'):OwnB W' B c:=
 fJ h k (λe=>by
  obtain⟨u1,h1⟩:=gP h e
  unfold BuAt at m
  rw[h1] at m;cases m)
theorem RowP.otherB{B b:Nat}{v:Value}{L:List Lp}{N S:Int}{r:Value}(h:RowP W B v L)(m:BuAt W b N S r)(k:Kept b W W'):RowP W' B v L:=
 fJ h k (λe=>by
  obtain⟨u1,h1⟩:=gP h e
  unfold BuAt at m
  rw[h1] at m;cases m)
theorem StI.come{v':Value}{c:Lp}(h:StI w g t S vq M vC C W)(r:RowP W' (g+1) v' (C++[c]))(gr:W.grownBy W' vC.ownBlock)(hc:c∈M):StI w g t S vq M v' (C++[c]) W':=by
 have hC:∀k,vC.ownBlock=some k→g<k:=λk hk=>(h.2.2.2.1.lt k hk).1
 have kk:Below (g+1) W W':=⟨gr.os,gr.tape,gr.output,gr.size,λk hk=>gr.block k (by have:=h.2.2.2.2.2.2.2.1;omega) (λe=>by have:=hC k e.symm;omega)⟩
 have g1:=h.2.2.2.2.2.2.1
 refine⟨h.1.under kk Yo,h.2.1.under kk Yo,qW h.2.2.1 gr (λb hb e=>by have:=h.2.2.2.2.2.2.2.2 b hb;have:=hC b e;omega),r,λd hd=>?_,h.2.2.2.2.2.1.trans (kk.mono Yo),g1,Nat.lt_of_lt_of_le h.2.2.2.2.2.2.2.1 gr.size,h.2.2.2.2.2.2.2.2⟩
 refine (h.2.2.2.2.1 d ?_).other h.2.2.2.1 gr
 rcases hd with hd|hd
 ·exact Or.inl hd
 ·rcases List.mem_append.1 hd with hd|hd
  ·exact Or.inr hd
  ·simp at hd;subst hd;exact Or.inl hc
end
theorem RowP.new{w:World}{B cap:Nat}{ao:Option Addr}{L:List Lp}(h:RowP w B (.slice ao L.length cap) L){C:Nat}(hb:∀c,c∈L→OwnB w C c){D:Nat}(h1:D≤B)(h2:D≤C):BNew D w ao cap L:=by
 obtain⟨ao',cap',e,hl⟩:=qM h
 cases e
 refine⟨⟨λhl=>?_,hl,λc hc=>(hb c hc).rd⟩,(wZ h).weak h1,λc hc=>(wZ (hb c hc)).weak h2⟩
 rcases h.2 with ⟨_,h0⟩|⟨g,c2,cur,e,_,rest⟩
 ·omega
 ·cases e
  refine⟨g,0,rfl,λi c hi=>PcAt.of (λk hk u hu=>?_)⟩
  have c1:=h.cells (g:=g) rfl (i*5+k) u (by rw[aAC hi hk];exact hu)
  rw[Addr.add_lit, ←Nat.add_assoc] at c1
  exact c1
theorem RowP.at{w:World}{B cap n g:Nat}{L:List Lp}(h:RowP w B (.slice (some ⟨g,0,none⟩) n cap) L){i:Nat}{c:Lp}(hi:L[i]?=some c):PcAt w g (0+i*5) c.p (iG c):=
 PcAt.of (λk hk u hu=>by
  have c1:=h.cells (g:=g) rfl (i*5+k) u (by rw[aAC hi hk];exact hu)
  rw[Addr.add_lit, ←Nat.add_assoc] at c1
  exact c1)
theorem kR(n l:Int)(w:World):Calls Tryz.prog 27 #[.int .i64 n,.int .i64 l] w λe w'=>e=.returned (.bool (decide (0≤n∧n≤l)))∧w'=w:=by
 by_cases h1:0≤n
 ·by_cases h2:n≤l
  ·rw[decide_eq_true (⟨h1,h2⟩:0≤n∧n≤l)]
   go_enter Tryz.func27,Tryz.ntmps27
   go_wp2_with fail
   go_ret
   exact⟨rfl,rfl⟩
  ·rw[decide_eq_false (λh=>h2 h.2:¬(0≤n∧n≤l))]
   go_enter Tryz.func27,Tryz.ntmps27
   go_wp2_with fail
   go_ret
   exact⟨rfl,rfl⟩
 ·rw[decide_eq_false (λh=>h1 h.1:¬(0≤n∧n≤l))]
  go_enter Tryz.func27,Tryz.ntmps27
  go_wp2_with fail
  go_ret
  exact⟨rfl,rfl⟩
set_option maxHeartbeats 1000000 in
theorem aFz(f t:Int)(w:World):Calls Tryz.prog 26 #[.int .i64 f,.int .i64 t] w λe w'=>e=.returned (.bool (decide ((0≤f∧f≤3)∧(0≤t∧t≤3)∧f≠t)))∧w'=w:=by
 have C1:=kR f 3 w
 have C2:=kR t 3 w
 by_cases h1:0≤f∧f≤3
 ·rw[decide_eq_true h1] at C1
  by_cases h2:0≤t∧t≤3
  ·rw[decide_eq_true h2] at C2
   by_cases h3:f=t
   ·rw[decide_eq_false (λh=>h.2.2 h3:¬((0≤f∧f≤3)∧(0≤t∧t≤3)∧f≠t))]
    subst h3
    clear h1 h2
    go_enter Tryz.func26,Tryz.ntmps26
    go_wp2_with fail
    refine C1.mono ?_
    rintro e w1 ⟨rfl,rfl⟩
    go_wp2_with fail
    refine C2.mono ?_
    rintro e w2 ⟨rfl,rfl⟩
    go_wp2_with fail
    go_ret
    exact⟨rfl,rfl⟩
   ·rw[decide_eq_true (⟨h1,h2,h3⟩:(0≤f∧f≤3)∧(0≤t∧t≤3)∧f≠t)]
    have h3b:(f !=t)=true:=by rw[bne_iff_ne];exact h3
    clear h1 h2
    go_enter Tryz.func26,Tryz.ntmps26
    go_wp2_with fail
    refine C1.mono ?_
    rintro e w1 ⟨rfl,rfl⟩
    go_wp2_with fail
    refine C2.mono ?_
    rintro e w2 ⟨rfl,rfl⟩
    go_wp2_with fail
    go_ret
    exact⟨rfl,rfl⟩
  ·rw[decide_eq_false h2] at C2
   rw[decide_eq_false (λh=>h2 h.2.1:¬((0≤f∧f≤3)∧(0≤t∧t≤3)∧f≠t))]
   clear h1 h2
   go_enter Tryz.func26,Tryz.ntmps26
   go_wp2_with fail
   refine C1.mono ?_
   rintro e w1 ⟨rfl,rfl⟩
   go_wp2_with fail
   refine C2.mono ?_
   rintro e w2 ⟨rfl,rfl⟩
   go_wp2_with fail
   go_ret
   exact⟨rfl,rfl⟩
 ·rw[decide_eq_false h1] at C1
  rw[decide_eq_false (λh=>h1 h.1:¬((0≤f∧f≤3)∧(0≤t∧t≤3)∧f≠t))]
  clear h1 C2
  go_enter Tryz.func26,Tryz.ntmps26
  go_wp2_with fail
  refine C1.mono ?_
  rintro e w1 ⟨rfl,rfl⟩
  go_wp2_with fail
  go_ret
  exact⟨rfl,rfl⟩
theorem aAc (ba : Option Addr) (bc : Nat) (ds : List Nat) (w : World) (hs : Sr w ba ds.length bc (bF (gF ds))) (hds : ds.length ≤ 140737488351232) :
  Calls Tryz.prog 28 #[.slice ba ds.length bc] w λe w'=>∃a3 c3,e=.returned (.slice a3 ds.length c3)∧w'.ownsRow w.heap.size 5 1 (.slice a3 ds.length c3) ds.length (rowV (bF (gF ds)) ds.length)∧Below w.heap.size w w':=by
 have HS:=aA hs
 clear hs
 go_enter Tryz.func28,Tryz.ntmps28
 go_wp2_with (at_builtin;refine wpList_join _ rfl _ _ rfl w.heap.size (Nat.le_refl _) (.slice none 0 0) 0 [] rfl (World.ownsRow_nil _ _ _ _) ba ds.length bc (bF (gF ds)) rfl (unhide HS) (λi _=>rfl) Yo ?_)
 intro v3 w3 o3 k3
 try rw[Nat.zero_add] at o3
 try rw[List.nil_append] at o3
 obtain⟨a3,c3,rfl,hc3⟩:=qM o3
 have O3:=aA o3;have K3:=aA k3
 clear o3 k3
 go_wp2_with fail
 go_ret
 exact⟨a3,c3,rfl,unhide O3,unhide K3⟩
set_option maxHeartbeats 2000000 in
theorem pK (ao : Option Addr) (cap : Nat) (L : List Lp) (w : World) (hok : ∀ c, c ∈ L → aCw c.p) (hN : L.length ≤ 2513169434843) (hr : BRd w ao cap L) :
  Calls Tryz.prog 29 #[.slice ao L.length cap] w λe w'=>∃va vc M,e=.returned (.slice va M.length vc)∧M.map Lp.p=L.map Lp.p∧OwnQ w' w.heap.size (.slice va M.length vc) M∧Below w.heap.size w w':=by
 have HR:=aA hr;have OK:=aA hok
 clear hr hok
 go_enter Tryz.func29,Tryz.ntmps29
 go_wp2_with fail
 go_loopw [3,8] (λvs is wr=>∃(i:Nat) (M:List Lp),i≤L.length∧is=.int .i64 (i:Nat)∧M.map Lp.p=(L.take i).map Lp.p∧OwnQ wr w.heap.size vs M∧Below w.heap.size w wr) (λ_ is _=>L.length-(intOf is).toNat)
 case atStart=>exact⟨0,[],Nat.zero_le _,rfl,rfl,OwnQ.nil _ _,Below.refl _ _⟩
 case round=>
  obtain⟨i,M,hi,rfl,hM,hO,hB⟩:=hrel
  rename World=>wr
  obtain⟨va,vc,rfl,hvc⟩:=hO.slice
  by_cases hin:i<L.length
  ·have hc:=List.getElem?_eq_getElem hin
   obtain⟨c,ec⟩:∃c,c=L[i]:=⟨_,rfl⟩
   rw[←ec] at hc
   have R:=(unhide HR).below hB
   obtain⟨x,o,rfl,hq⟩:=R.1 Yo
   obtain⟨p0,p1,p2,p3,p4⟩:=hq i c hc
   have pr:=R.2.2 c (List.mem_of_getElem? hc)
   have po:=unhide OK c (List.mem_of_getElem? hc)
   have TK:=aA (show (L.take (i+1)).map Lp.p=(L.take i).map Lp.p++[c.p] by rw[List.take_add_one,hc];simp)
   obtain⟨⟨fr,to,du,se,ds⟩,ba,bc⟩:=c
   unfold iG at p4
   dsimp only at p0 p1 p2 p3 p4 pr po TK
   obtain⟨w2,e2,m2,k2,s2⟩:=pW wr ⟨fr,to,du,se,ds⟩ (.slice ba ds.length bc)
   dsimp only at e2
   have H2:=hO.below k2
   have B2:=hB.trans (k2.mono hB.size)
   have hds:ds.length≤140737488351232:=po.2.2.2.2.2
   have C:=aAc ba bc ds w2 (pr.1.below k2) hds
   have d4:=m2.pc.2.2.2.2
   rw[e2] at d4
   have hN2:M.length≤2513169434843:=by rw[show M.length=(M.map Lp.p).length by simp,hM];simp;omega
   have HH:=aA H2;have M2:=aA m2;have E2:=aA e2;have Z2:=aA s2;have HM:=aA hM;have OLD:=aA (And.intro hO hB);have BB:=aA B2
   clear hc ec R hq pr po e2 k2 H2 m2 hM hO s2 hB B2
   go_wp2_with fail
   rw[←unhide E2]
   refine C.mono ?_
   rintro e w3 ⟨a3,c3,rfl,o3,k3⟩
   clear C
   have m3:=(unhide M2).below k3
   have H3:=(unhide HH).below k3
   have g4:=m3.pc.2.2.2.2;have fz:=m3.free 4
   obtain⟨w4,e4,m4,k4,s4⟩:=m3.put4 (.slice a3 ds.length c3)
   have z2:=unhide Z2
   have o4:OwnB w4 w2.heap.size ⟨⟨fr,to,du,se,ds⟩,a3,c3⟩:=fJ o3 k4 (λe=>by have:=(o3.lt _ e).1;omega)
   have H4:OwnQ w4 w.heap.size (.slice va M.length vc) M:=⟨fJ H3.1 k4 (λe=>by have:=((unhide OLD).1.1.lt _ e).2;omega),λd hd=>fJ (H3.2.1 d hd) k4 (λe=>by have:=(((unhide OLD).1.2.1 d hd).lt _ e).2;omega),H3.2.2⟩
   have hsz:=(unhide OLD).2.size
   have B4:Below w.heap.size w w4:=aC ((unhide BB).trans (k3.mono Yo)) k4 hsz ((unhide BB).trans (k3.mono Yo)).size
   obtain⟨q0,q1,q2,q3,q4⟩:=m4.pc
   obtain⟨w5,e5,m5,k5,s5⟩:=pW w4 ⟨fr,to,du,se,ds⟩ (.slice a3 ds.length c3)
   rw[s4] at m5
   dsimp only at e5 q0 q1 q2 q3
   have H5:=H4.below k5
   have B5:=B4.trans (k5.mono B4.size)
   have P5:=aA m5.pc
   have O5:=aA (show OwnB w5 w.heap.size ⟨⟨fr,to,du,se,ds⟩,a3,c3⟩ from lG (o4.below k5) Yo)
   have AP:=aA (show ∀d,d∈M→∀g,(iG d).ownBlock=some g→(iG ⟨⟨fr,to,du,se,ds⟩,a3,c3⟩).ownBlock≠some g from λd hd g hg e=>by
    have:=(((unhide OLD).1.2.1 d hd).lt g hg).2
    have:=(o4.lt g e).1
    omega)
   have E5:=aA e5;have HH5:=aA H5;have E4:=aA e4;have BB5:=aA B5
   rw[e4] at q0 q1 q2 q3 q4
   clear o3 k3 m3 H3 e4 m4 k4 s4 o4 H4 e5 m5 k5 s5 H5 p0 p1 p2 p3 p4 d4 HH M2 B4 B5 z2
   go_wp2_with (at_builtin;refine wpList_joinP _ rfl _ _ rfl w.heap.size (by rw[←unhide E4, ←unhide E5];exact (unhide BB5).size) _ M rfl (by rw[←unhide E4, ←unhide E5];exact unhide HH5) w3.heap.size ⟨⟨fr,to,du,se,ds⟩,a3,c3⟩ rfl (by rw[←unhide E4, ←unhide E5];exact unhide P5) (by rw[←unhide E4, ←unhide E5];exact unhide O5) (unhide AP) hN2 ?_)
   intro v6 w6 o6 k6 _
   rw[←unhide E4, ←unhide E5] at k6
   have O6:=aA o6;have K6:=aA ((unhide BB5).trans k6)
   clear o6 k6 q0 q1 q2 q3 q4
   go_wp2_with fail
   go_roundw
   case rel=>exact⟨i+1,M++[⟨⟨fr,to,du,se,ds⟩,a3,c3⟩],Yo,by go_num,by rw[unhide TK,List.map_append,unhide HM];rfl,unhide O6,unhide K6⟩
   case measure=>simp[intOf]<;>omega
  ·have e9:i=L.length:=Yo
   subst e9
   have O9:=aA hO;have B9:=aA hB;have M9:=aA (show M.map Lp.p=L.map Lp.p by rw[hM,List.take_length])
   clear hO hB hM
   go_wp2_with fail
   go_ret
   exact⟨va,vc,M,rfl,unhide M9,unhide O9,unhide B9⟩
theorem wpList_joinW (w : World) {ops : Array Oper} {rest : List Oper} {o : Oper} {a : Act} {Q : Exit → Act → World → Prop} (hgd : o.guard = none) (s x : Operand)
  (ho:o.op=.call { callee:=.builtin .append,args:=#[s,x],argTypes:=#[72,72] }) (B:Nat) (hB:B≤w.heap.size)
  (v:Value) (L:List Lp) (hs:a.eval s=v) (hown:RowP w B v L) (b:Nat) (c:Lp) (hx:a.eval x=.slice (some ⟨b,0,none⟩) 1 1) (hc:PcAt w b 0 c.p (iG c)) (hl:L.length≤2513169434843)
  (h:∀v' w',RowP w' B v' (L++[c])→w.grownBy w' v.ownBlock→(∀k,v'.ownBlock=some k→v.ownBlock=some k∨w.heap.size≤k)→Below B w w'→wpList Tryz.prog ops Q rest (a.put o.dst v') w'):wpList Tryz.prog ops Q (o::rest) a w:=by
 obtain⟨i0,hi,hz0,hz1,hz2⟩:=info_parts aEt
 have hcells:∀(j:Nat) (u:Value),(lpL [c])[j]?=some u→w.cell? ((⟨b,0,none⟩:Addr).add j)=some u:=by
  intro j u hj
  rw[Addr.add_lit,Nat.zero_add]
  obtain⟨p0,p1,p2,p3,p4⟩:=hc
  match j with
  |0=>simp[lpL,lpC] at hj;subst hj;exact p0
  |1=>simp[lpL,lpC] at hj;subst hj;exact p1
  |2=>simp[lpL,lpC] at hj;subst hj;exact p2
  |3=>simp[lpL,lpC] at hj;subst hj;exact p3
  |4=>simp[lpL,lpC] at hj;subst hj;exact p4
  |j+5=>simp[lpL,lpC] at hj
 have hcat:∀{B':Nat} {v':Value} {w2:World},w2.ownsRow B' 82 5 v' (L.length+1) (lpL L++lpL [c])→RowP w2 B' v' (L++[c]):=λq=>by unfold RowP;rw[List.length_append,zW];exact q
 rcases hown.2 with ⟨rfl,h0⟩|⟨r,cap,cur,rfl,hb,hg,hcc,hm,hsz,hcur⟩
 ·have eL:L=[]:=List.length_eq_zero_iff.1 h0
  subst eL
  refine wpList_append_own w hgd s x 72 ho w.heap.size 82 i0 (.agg #[.int .i64 0,.int .i64 0,.int .i64 0,.int .i64 0,.slice none 0 0]) 5 56 Tryz.underlying72 hi hz0 hz1 hz2 rfl Yc (.slice none 0 0) 0 [] hs (World.ownsRow_nil _ _ _ _) ⟨b,0,none⟩ 1 1 (lpL [c]) hx rfl hcells yA (by unfold maxLen;omega) Yo (Nat.le_refl _) ?_
  intro v' w2 ho2 hgr _
  exact h v' w2 (hcat (lG ho2 hB)) hgr (λk hk=>Or.inr (ho2.lt k hk).1) ⟨hgr.os,hgr.tape,hgr.output,hgr.size,λk hk=>hgr.block k Yo (λe=>by cases e)⟩
 ·by_cases hfit:L.length+1≤cap
  ·refine wpList_append_fits w hgd s x 72 ho B 82 i0 5 Tryz.underlying72 hi hz1 r L.length cap (lpL L) hs hown ⟨b,0,none⟩ 1 1 (lpL [c]) hx rfl hcells yA hfit ?_
   intro w2 ho2 hgr
   exact h (.slice (some ⟨r,0,none⟩) (L.length+1) cap) w2 (hcat ho2) hgr (λk hk=>Or.inl hk) ⟨hgr.os,hgr.tape,hgr.output,hgr.size,λk hk=>hgr.block k Yo (by intro e;cases e;omega)⟩
  ·refine wpList_append_grows w hgd s x 72 ho 82 i0 (.agg #[.int .i64 0,.int .i64 0,.int .i64 0,.int .i64 0,.slice none 0 0]) 5 56 Tryz.underlying72 hi hz0 hz1 hz2 rfl Yc (some ⟨r,0,none⟩) L.length cap (lpL L) hs (λh=>by cases h) (yE L) (λb' hb' j u hj=>?_) ⟨b,0,none⟩ 1 1 (lpL [c]) hx rfl hcells yA Yo (by unfold maxLen;omega) Yo ?_
   ·cases hb'
    exact hown.cells (g:=r) rfl j u hj
   intro v' w2 ho2 hgr
   exact h v' w2 (hcat (lG ho2 hB)) ⟨hgr.os,hgr.tape,hgr.output,hgr.size,λk hk _=>hgr.block k hk (by simp)⟩ (λk hk=>Or.inr (ho2.lt k hk).1) ⟨hgr.os,hgr.tape,hgr.output,hgr.size,λk hk=>hgr.block k Yo (by simp)⟩
def PtI(w:World)(vC:Value)(C:List Lp)(vW:Value)(X:List Lp)(W:World):Prop:=
 RowP W w.heap.size vC C∧RowP W w.heap.size vW X∧(∀k,vC.ownBlock=some k→vW.ownBlock=some k→False)∧Below w.heap.size w W
section
variable {w W W':World} {vC vW v':Value} {C X:List Lp} {c:Lp}
theorem PtI.below(h:PtI w vC C vW X W)(k:Below W.heap.size W W'):PtI w vC C vW X W':=⟨mO h.1 k,mO h.2.1 k,h.2.2.1,h.2.2.2.trans (k.mono h.2.2.2.size)⟩
theorem PtI.come(h:PtI w vC C vW X W)(r:RowP W' w.heap.size v' (C++[c]))(gr:W.grownBy W' vC.ownBlock)(hb:∀k,v'.ownBlock=some k→vC.ownBlock=some k∨W.heap.size≤k)(k:Below w.heap.size W W'):PtI w v' (C++[c]) vW X W':=
 ⟨r,qW h.2.1 gr (λb hb e=>h.2.2.1 b e hb),λi h1 h2=>by
  rcases hb i h1 with e|e
  ·exact h.2.2.1 i e h2
  ·have:=(h.2.1.lt i h2).2;omega,h.2.2.2.trans k⟩
theorem PtI.swap(h:PtI w vC C vW X W):PtI w vW X vC C W:=⟨h.2.1,h.1,λk h1 h2=>h.2.2.1 k h2 h1,h.2.2.2⟩
end
set_option maxHeartbeats 2000000 in
theorem aDq (B : Nat) (ao : Option Addr) (cap : Nat) (M : List Lp) (t : Int) (w : World) (hr : RowP w B (.slice ao M.length cap) M) (hN : M.length ≤ 2513169434843) :
  Calls Tryz.prog 30 #[.slice ao M.length cap,.int .i64 t] w λe w'=>∃vC vW,e=.returned (.tuple #[vC,vW])∧PtI w vC (M.filter λc=>fK t c.p) vW (M.filter λc=> !fK t c.p) w':=by
 have HR:=aA hr
 clear hr
 go_enter Tryz.func30,Tryz.ntmps30
 go_wp2_with fail
 go_loopg [4,5,10] M.length (λr vC vW is wr=>∃i:Nat,i≤M.length∧M.length-i≤r∧is=.int .i64 (i:Int)∧Hid (PtI w vC ((M.take i).filter λc=>fK t c.p) vW ((M.take i).filter λc=> !fK t c.p) wr))
 case atStart=>exact⟨0,Nat.zero_le _,Yo,rfl,aA ⟨World.ownsRow_nil _ _ _ _,World.ownsRow_nil _ _ _ _,λk h=>by (cases h),Below.refl _ _⟩⟩
 case round=>
  obtain⟨i,hi,hr,rfl,HI⟩:=hrel
  by_cases hin:i<M.length
  ·have hinz:(i:Int)<(M.length:Int):=Yo
   have hc:=List.getElem?_eq_getElem hin
   obtain⟨c,ec⟩:∃c,c=M[i]:=⟨_,rfl⟩
   rw[←ec] at hc
   obtain⟨g,rfl⟩:=aBn (unhide HR) Yo
   have hq:=((unhide HR).at hc).below (show Below w.heap.size w wr from (unhide HI).2.2.2)
   obtain⟨p0,p1,p2,p3,p4⟩:=hq
   simp only[Nat.zero_add] at p0 p1 p2 p3 p4
   have TK1:=aA (show (M.take (i+1)).filter (λc=>fK t c.p)=(M.take i).filter (λc=>fK t c.p)++[c].filter (λc=>fK t c.p) by rw[List.take_add_one,hc, ←List.filter_append];rfl)
   have TK2:=aA (show (M.take (i+1)).filter (λc=> !fK t c.p)=(M.take i).filter (λc=> !fK t c.p)++[c].filter (λc=> !fK t c.p) by rw[List.take_add_one,hc, ←List.filter_append];rfl)
   have hl1:((M.take i).filter (λc=>fK t c.p)).length≤2513169434843:=Nat.le_trans (List.length_filter_le ..) (by rw[List.length_take];omega)
   have hl2:((M.take i).filter (λc=> !fK t c.p)).length≤2513169434843:=Nat.le_trans (List.length_filter_le ..) (by rw[List.length_take];omega)
   obtain⟨X1,eX1⟩:∃X,X=(M.take i).filter (λc=>fK t c.p):=⟨_,rfl⟩
   obtain⟨X2,eX2⟩:∃X,X=(M.take i).filter (λc=> !fK t c.p):=⟨_,rfl⟩
   rw[←eX1, ←eX2] at HI
   rw[←eX1] at TK1 hl1
   rw[←eX2] at TK2 hl2
   clear eX1 eX2
   obtain⟨⟨fr,tt,du,se,ds⟩,ba,bc⟩:=c
   unfold iG at p4
   dsimp only at p0 p1 p2 p3 p4
   obtain⟨w2,e2,m2,k2,s2⟩:=pW wr ⟨fr,tt,du,se,ds⟩ (.slice ba ds.length bc)
   dsimp only at e2
   obtain⟨w3,e3,m3,k3,s3⟩:=pW w2 ⟨fr,tt,du,se,ds⟩ (.slice ba ds.length bc)
   dsimp only at e3
   have H3:=aA (((unhide HI).below k2).below k3)
   have P3:=aA m3.pc
   obtain⟨d0,d1,d2,d3,d4⟩:=m2.pc
   dsimp only at d0 d1 d2 d3
   rw[e2] at d0 d1 d2 d3 d4
   have E3:=aA (show w3=(wr.alloc (.cells #[.int .i64 fr,.int .i64 tt,.int .i64 du,.int .i64 se,.slice ba ds.length bc] 82)).alloc (.cells #[.int .i64 fr,.int .i64 tt,.int .i64 du,.int .i64 se,.slice ba ds.length bc] 82) by rw[e3,e2])
   have S2:=aA s2;have SZ3:=aA (show w3.heap.size=wr.heap.size+1+1 by omega)
   clear e2 e3 m2 m3 k2 k3 s2 s3 hc ec HI
   by_cases hd:du≤t
   ·have F1:=aA (show [(⟨⟨fr,tt,du,se,ds⟩,ba,bc⟩:Lp)].filter (λc=>fK t c.p)=[⟨⟨fr,tt,du,se,ds⟩,ba,bc⟩] by simp[fK,hd])
    have F2:=aA (show [(⟨⟨fr,tt,du,se,ds⟩,ba,bc⟩:Lp)].filter (λc=> !fK t c.p)=[] by simp[fK,hd])
    go_wp2_with (at_builtin;refine wpList_joinW _ rfl _ _ rfl w.heap.size (by rw[←unhide E3];exact (unhide H3).2.2.2.size) _ X1 rfl (by rw[←unhide E3];exact (unhide H3).1) (wr.heap.size+1) ⟨⟨fr,tt,du,se,ds⟩,ba,bc⟩ rfl (by rw[←unhide E3, ←unhide S2];exact unhide P3) hl1 ?_)
    intro v6 w6 o6 g6 b6 k6
    have g7:w3.grownBy w6 u4.ownBlock:=by rw[unhide E3];exact g6
    have k7:Below w.heap.size w3 w6:=by rw[unhide E3];exact k6
    have b7:∀k,v6.ownBlock=some k→u4.ownBlock=some k∨w3.heap.size≤k:=λk hk=>by
     rcases b6 k hk with e|e
     ·exact Or.inl e
     ·refine Or.inr ?_
      rw[unhide SZ3]
      simpa using e
    have H6:=aA ((unhide H3).come o6 g7 b7 k7)
    clear g7 b7 k7
    clear o6 g6 b6 k6 d0 d1 d2 d3 d4
    go_wp2_with fail
    go_roundg (M.length-(i+1))
    case measure=>omega
    case rel=>exact⟨i+1,Yo,Yo,by go_num,aA (by rw[unhide TK1,unhide TK2,unhide F1,unhide F2,List.append_nil];exact unhide H6)⟩
   ·have F1:=aA (show [(⟨⟨fr,tt,du,se,ds⟩,ba,bc⟩:Lp)].filter (λc=>fK t c.p)=[] by simp[fK,hd])
    have F2:=aA (show [(⟨⟨fr,tt,du,se,ds⟩,ba,bc⟩:Lp)].filter (λc=> !fK t c.p)=[⟨⟨fr,tt,du,se,ds⟩,ba,bc⟩] by simp[fK,hd])
    go_wp2_with (at_builtin;refine wpList_joinW _ rfl _ _ rfl w.heap.size (by rw[←unhide E3];exact (unhide H3).2.2.2.size) _ X2 rfl (by rw[←unhide E3];exact (unhide H3).2.1) (wr.heap.size+1) ⟨⟨fr,tt,du,se,ds⟩,ba,bc⟩ rfl (by rw[←unhide E3, ←unhide S2];exact unhide P3) hl2 ?_)
    intro v6 w6 o6 g6 b6 k6
    have g7:w3.grownBy w6 u5.ownBlock:=by rw[unhide E3];exact g6
    have k7:Below w.heap.size w3 w6:=by rw[unhide E3];exact k6
    have b7:∀k,v6.ownBlock=some k→u5.ownBlock=some k∨w3.heap.size≤k:=λk hk=>by
     rcases b6 k hk with e|e
     ·exact Or.inl e
     ·refine Or.inr ?_
      rw[unhide SZ3]
      simpa using e
    have H6:=aA ((unhide H3).swap.come o6 g7 b7 k7).swap
    clear g7 b7 k7
    clear o6 g6 b6 k6 d0 d1 d2 d3 d4
    go_wp2_with fail
    go_roundg (M.length-(i+1))
    case measure=>omega
    case rel=>exact⟨i+1,Yo,Yo,by go_num,aA (by rw[unhide TK1,unhide TK2,unhide F1,unhide F2,List.append_nil];exact unhide H6)⟩
  ·have hinz:¬(i:Int)<(M.length:Int):=Yo
   have H9:Hid (PtI w u4 (M.filter λc=>fK t c.p) u5 (M.filter λc=> !fK t c.p) wr):=aA (by have:=unhide HI;rw[List.take_of_length_le Yo] at this;exact this)
   clear HI
   go_wp2_with fail
   refine bodyPost_ret (v:=.tuple #[u4,u5]) (by simp[results,Tryz.results30,go_sem]) rfl ⟨u4,u5,rfl,unhide H9⟩
theorem aFG (p : Pc) (pa : Option Addr) (pn pc b : Nat) (s : Int) (w : World) (hb : w.cell? ⟨b, 0, none⟩ = some (.int .i64 s)) :
  Calls Tryz.prog 51 #[lQ p (.slice pa pn pc),.pointer (some ⟨b,0,none⟩)] w λe w'=>e=.returned (.bool (decide (p.se=s)))∧Below w.heap.size w w':=by
 obtain⟨w1,e1,m1,k1,z1⟩:=pW w p (.slice pa pn pc)
 have c1:=bE hb k1
 obtain⟨d0,d1,d2,d3,d4⟩:=m1.pc
 rw[e1] at c1 d3
 have E1:=aA e1;have K1:=aA k1
 clear e1 m1 k1 z1 d0 d1 d2 d4
 unfold lQ
 by_cases hs:p.se=s
 ·rw[decide_eq_true hs]
  subst hs
  go_enter Tryz.func51,Tryz.ntmps51
  go_wp2_with fail
  rw[←unhide E1]
  go_ret
  exact⟨rfl,unhide K1⟩
 ·rw[decide_eq_false hs]
  have hsb:(p.se==s)=false:=beq_eq_false_iff_ne.2 hs
  go_enter Tryz.func51,Tryz.ntmps51
  go_wp2_with fail
  rw[←unhide E1]
  refine bodyPost_ret (v:=.bool false) (by simp[results,Tryz.results51,go_sem]) rfl ⟨rfl,unhide K1⟩
def fdZ(s:Int)(q:List Pc):Int:=if fsP s q<q.length then (fsP s q:Int) else -1
set_option maxHeartbeats 2000000 in
theorem aDx (ao : Option Addr) (cap : Nat) (L : List Lp) (s : Int) (b : Nat) (w : World) (hr : QRd w ao L) (hN : L.length ≤ 2513169434843) (hb : w.cell? ⟨b, 0, none⟩ = some (.int .i64 s)) :
  Calls Tryz.prog 50 #[.slice ao L.length cap,.func (.func 51) #[] #[.pointer (some ⟨b,0,none⟩)]] w λe w'=>e=.returned (.int .i64 (fdZ s (L.map Lp.p)))∧Below w.heap.size w w':=by
 have HR:=aA hr;have HB:=aA hb
 clear hr hb
 go_enter Tryz.func50,Tryz.ntmps50
 go_wp2_with fail
 go_loopg [8] L.length (λr is wr=>∃i:Nat,i≤L.length∧L.length-i≤r∧is=.int .i64 (i:Int)∧Hid (∀j c,j<i→L[j]?=some c→c.p.se≠s)∧Hid (Below w.heap.size w wr))
 case atStart=>exact⟨0,Nat.zero_le _,Yo,rfl,aA (λj c h=>absurd h Yo),aA (Below.refl _ _)⟩
 case round=>
  obtain⟨i,hi,hr,rfl,HI,KB⟩:=hrel
  by_cases hin:i<L.length
  ·have hinz:(i:Int)<(L.length:Int):=Yo
   have hc:=List.getElem?_eq_getElem hin
   obtain⟨c,ec⟩:∃c,c=L[i]:=⟨_,rfl⟩
   rw[←ec] at hc
   obtain⟨x,o,rfl,hq⟩:=(unhide HR) Yo
   obtain⟨p0,p1,p2,p3,p4⟩:=(hq i c hc).below (unhide KB)
   have C:=aFG c.p c.ao c.p.ds.length c.cap b s wr (bE (unhide HB) (unhide KB))
   have HC:=aA hc
   obtain⟨⟨fr,tt,du,se,ds⟩,ba,bc⟩:=c
   unfold iG at p4
   unfold lQ at C
   dsimp only at p0 p1 p2 p3 p4 C
   clear hc ec hq
   by_cases hs:se=s
   ·rw[decide_eq_true hs] at C
    have FS:=aA (show fsP s (L.map Lp.p)=i from aRu (λj p hj hp=>by
     rw[List.getElem?_map] at hp
     rw[List.getElem?_eq_getElem (show j<L.length by omega)] at hp
     cases hp
     exact unhide HI j _ hj (List.getElem?_eq_getElem Yo)) (λp hp=>by
     rw[List.getElem?_map,unhide HC] at hp
     cases hp
     exact hs) (by simp;omega))
    have HS:=aA hs
    clear hs
    go_wp2_with fail
    refine C.mono ?_
    rintro e w3 ⟨rfl,k3⟩
    have K3:=aA ((unhide KB).trans (k3.mono (unhide KB).size))
    clear C k3
    go_wp2_with fail
    go_ret
    refine⟨?_,unhide K3⟩
    unfold fdZ
    rw[unhide FS,if_pos (by simp;omega)]
    rfl
   ·rw[decide_eq_false hs] at C
    have HS:=aA hs
    clear hs
    go_wp2_with fail
    refine C.mono ?_
    rintro e w3 ⟨rfl,k3⟩
    have K3:=aA ((unhide KB).trans (k3.mono (unhide KB).size))
    clear C k3
    go_wp2_with fail
    go_roundg (L.length-(i+1))
    case measure=>omega
    case rel=>exact⟨i+1,Yo,Yo,by go_num,aA (λj c hj hc=>by
     by_cases ej:j=i
     ·subst ej
      have:=Option.some.inj (hc.symm.trans (unhide HC))
      rw[this];exact unhide HS
     ·exact unhide HI j c Yo hc),K3⟩
  ·have hinz:¬(i:Int)<(L.length:Int):=Yo
   have FS:=aA (show ¬fsP s (L.map Lp.p)<(L.map Lp.p).length from λh=>by
    have e2:=aRz (List.getElem?_eq_getElem h)
    rw[List.length_map] at h
    rw[List.getElem_map] at e2
    exact unhide HI _ _ Yo (List.getElem?_eq_getElem h) e2)
   go_wp2_with fail
   go_ret
   refine⟨?_,unhide KB⟩
   unfold fdZ
   rw[if_neg (unhide FS)]
   rfl
set_option maxHeartbeats 1000000 in
theorem aFw (ao : Option Addr) (cap : Nat) (L : List Lp) (s : Int) (w : World) (hr : QRd w ao L) (hN : L.length ≤ 2513169434843) :
  Calls Tryz.prog 35 #[.slice ao L.length cap,.int .i64 s] w λe w'=>e=.returned (.int .i64 (fdZ s (L.map Lp.p)))∧Below w.heap.size w w':=by
 obtain⟨w1,e1⟩:∃w1,w1=w.alloc (.cells #[.int .i64 s] 3):=⟨_,rfl⟩
 have k1:Below w.heap.size w w1:=by rw[e1];exact bR _ _
 have C:=aDx ao cap L s w.heap.size w1 (hr.below k1) hN (by rw[e1];simp)
 have E1:=aA e1;have K1:=aA k1
 clear e1 k1 hr
 obtain⟨z,ez⟩:∃z,z=fdZ s (L.map Lp.p):=⟨_,rfl⟩
 rw[←ez] at C ⊢
 clear ez
 go_enter Tryz.func35,Tryz.ntmps35
 go_wp2_with fail
 rw[←unhide E1]
 refine C.mono ?_
 rintro e w3 ⟨rfl,k3⟩
 have K3:=aA ((unhide K1).trans (k3.mono (unhide K1).size))
 clear C k3
 go_wp2_with fail
 go_ret
 exact⟨rfl,unhide K3⟩
end Go.Proofs.YtdhblehhgpdpdacGreat
