import Derived.Test.YtdhblehhgpdpdacGreatNear79
import Derived.Test.YtdhblehhgpdpdacGreatNear106
namespace Go.Proofs.YtdhblehhgpdpdacGreat
open Go.RowKit
def gF(l:List Nat)(i:Nat):Nat:=l.getD i 0
theorem aNH{l:List Nat}(h:∀x,x∈l→x<256)(i:Nat):gF l i<256:=by
 unfold gF
 rw[List.getD_eq_getElem?_getD]
 rcases e:l[i]? with _|x
 ·show 0<256;omega
 ·exact h x (List.mem_of_getElem? e)
structure Lp where
 p:Pc
 ao:Option Addr
 cap:Nat
def iG(c:Lp):Value:=.slice c.ao c.p.ds.length c.cap
def lpC(c:Lp):List Value:=[.int .i64 c.p.fr,.int .i64 c.p.to,.int .i64 c.p.du,.int .i64 c.p.se,.slice c.ao c.p.ds.length c.cap]
def lpL:List Lp→List Value
 |[]=>[]
 |c::l=>lpC c++lpL l
theorem yE(l:List Lp):(lpL l).length=l.length*5:=by
 induction l with
 |nil=>rfl
 |cons c l ih=>show (lpC c++lpL l).length=(l.length+1)*5;rw[List.length_append,ih];show 5+_=_;omega
theorem zW(l m:List Lp):lpL (l++m)=lpL l++lpL m:=by
 induction l with
 |nil=>rfl
 |cons c l ih=>show lpC c++lpL (l++m)=(lpC c++lpL l)++lpL m;rw[ih,List.append_assoc]
theorem aAC{l:List Lp}:∀{i:Nat} {c:Lp} {k:Nat},l[i]?=some c→k<5→(lpL l)[i*5+k]?=(lpC c)[k]?:=by
 induction l with
 |nil=>intro i c k h;simp at h
 |cons d l ih=>
  intro i c k h hk
  cases i with
  |zero=>
   simp at h;subst h
   show (lpC d++lpL l)[0*5+k]?=_
   rw[Nat.zero_mul,Nat.zero_add,List.getElem?_append_left (by show k<5;exact hk)]
  |succ i=>
   simp at h
   show (lpC d++lpL l)[(i+1)*5+k]?=_
   rw[List.getElem?_append_right (by show 5≤_;omega),show (i+1)*5+k-(lpC d).length=i*5+k by show _-5=_;omega]
   exact ih h hk
theorem yA{l:List Lp}:∀u∈lpL l,u.oneCell'=true:=by
 induction l with
 |nil=>intro u h;cases h
 |cons c l ih=>
  intro u h
  rcases List.mem_append.1 h with h|h
  ·simp only[lpC,List.mem_cons,List.not_mem_nil,or_false] at h
   rcases h with rfl|rfl|rfl|rfl|rfl<;>rfl
  ·exact ih u h
def PcAt(w:World)(b o:Nat)(p:Pc)(v:Value):Prop:=
 w.cell? ⟨b,o,none⟩=some (.int .i64 p.fr)∧w.cell? ⟨b,o+1,none⟩=some (.int .i64 p.to)∧w.cell? ⟨b,o+2,none⟩=some (.int .i64 p.du)∧w.cell? ⟨b,o+3,none⟩=some (.int .i64 p.se)∧w.cell? ⟨b,o+4,none⟩=some v
def QRd(w:World)(ao:Option Addr)(L:List Lp):Prop:=0<L.length→∃b o,ao=some ⟨b,o,none⟩∧∀i c,L[i]?=some c→PcAt w b (o+i*5) c.p (iG c)
def PRd(w:World)(c:Lp):Prop:=Sr w c.ao c.p.ds.length c.cap (bF (gF c.p.ds))∧c.p.ds.length≤c.cap
def aCw(p:Pc):Prop:=R64 p.fr∧R64 p.to∧R64 p.du∧R64 p.se∧(∀x,x∈p.ds→x<256)∧p.ds.length≤140737488351232
def BRd(w:World)(ao:Option Addr)(cap:Nat)(L:List Lp):Prop:=QRd w ao L∧L.length≤cap∧∀c,c∈L→PRd w c
section
variable {w w':World} {ao:Option Addr} {cap:Nat} {L:List Lp} {c:Lp}
theorem PcAt.of{b o:Nat}(h:∀k,k<5→∀u,(lpC c)[k]?=some u→w.cell? ⟨b,o+k,none⟩=some u):PcAt w b o c.p (iG c):=
 ⟨h 0 Yo _ rfl,h 1 Yo _ rfl,h 2 Yo _ rfl,h 3 Yo _ rfl,h 4 Yo _ rfl⟩
theorem PcAt.below{b o:Nat}{p:Pc}{v:Value}(h:PcAt w b o p v)(k:Below w.heap.size w w'):PcAt w' b o p v:=
 ⟨bE h.1 k,bE h.2.1 k,bE h.2.2.1 k,bE h.2.2.2.1 k,bE h.2.2.2.2 k⟩
theorem PcAt.lt{b o:Nat}{p:Pc}{v:Value}(h:PcAt w b o p v):b<w.heap.size:=World.block_lt_of_cell? w _ h.1
theorem PcAt.same{b o:Nat}{p:Pc}{v:Value}(h:PcAt w b o p v)(e:w'.heap[b]?=w.heap[b]?):PcAt w' b o p v:=by
 have f:∀o,w'.cell? ⟨b,o,none⟩=w.cell? ⟨b,o,none⟩:=λo=>by unfold World.cell?;rw[show w'.heap[(⟨b,o,none⟩:Addr).block]?=w.heap[(⟨b,o,none⟩:Addr).block]? from e]
 unfold PcAt at*
 rw[f,f,f,f,f]
 exact h
theorem QRd.below(h:QRd w ao L)(k:Below w.heap.size w w'):QRd w' ao L:=λhl=>by
 obtain⟨b,o,e,hc⟩:=h hl
 exact⟨b,o,e,λi c hi=>(hc i c hi).below k⟩
theorem PRd.below(h:PRd w c)(k:Below w.heap.size w w'):PRd w' c:=⟨h.1.below k,h.2⟩
theorem BRd.below(h:BRd w ao cap L)(k:Below w.heap.size w w'):BRd w' ao cap L:=⟨h.1.below k,h.2.1,λc hc=>(h.2.2 c hc).below k⟩
theorem BRd.nil(w:World)(ao:Option Addr)(cap:Nat):BRd w ao cap []:=⟨λh=>absurd h (by simp),Nat.zero_le _,λ_ h=>absurd h (by simp)⟩
end
def Room(w:World)(B:Nat)(t:TypeId)(size:Nat)(ao:Option Addr)(cap:Nat):Prop:=cap=0∨∃b o cur,ao=some ⟨b,o,none⟩∧B≤b∧w.heap[b]?=some (.cells cur t (0,0))∧o+cap*size≤cur.size
theorem Room.below{w w':World}{B:Nat}{t:TypeId}{size cap:Nat}{ao:Option Addr}(h:Room w B t size ao cap)(k:Below w.heap.size w w'):Room w' B t size ao cap:=by
 rcases h with h|⟨b,o,cur,e,hb,hg,hc⟩
 ·exact Or.inl h
 ·exact Or.inr ⟨b,o,cur,e,hb,(k.block b (lt_of_block hg)).trans hg,hc⟩
theorem Room.weak{w:World}{B C:Nat}{t:TypeId}{size cap:Nat}{ao:Option Addr}(h:Room w B t size ao cap)(e:C≤B):Room w C t size ao cap:=by
 rcases h with h|⟨b,o,cur,ea,hb,hg,hc⟩
 ·exact Or.inl h
 ·exact Or.inr ⟨b,o,cur,ea,Nat.le_trans e hb,hg,hc⟩
def BNew(B:Nat)(w:World)(ao:Option Addr)(cap:Nat)(L:List Lp):Prop:=BRd w ao cap L∧Room w B 82 5 ao cap∧∀c,c∈L→Room w B 5 1 c.ao c.cap
theorem BNew.below{w w':World}{B cap:Nat}{ao:Option Addr}{L:List Lp}(h:BNew B w ao cap L)(k:Below w.heap.size w w'):BNew B w' ao cap L:=⟨h.1.below k,h.2.1.below k,λc hc=>(h.2.2 c hc).below k⟩
theorem BNew.weak{w:World}{B C cap:Nat}{ao:Option Addr}{L:List Lp}(h:BNew B w ao cap L)(e:C≤B):BNew C w ao cap L:=⟨h.1,h.2.1.weak e,λc hc=>(h.2.2 c hc).weak e⟩
def lI(N S:Int)(v:Value):Value:=.agg #[.int .i64 N,.int .i64 S,v]
def zZ(b:Bs):Prop:=R64 b.now∧R64 b.ser∧(∀p,p∈b.q→aCw p)∧b.q.length≤2513169434843
def These(L:List Lp)(q:List Pc):Prop:=L.map Lp.p=q
theorem These.len{L:List Lp}{q:List Pc}(h:These L q):L.length=q.length:=by rw[←h,List.length_map]
theorem These.at{L:List Lp}{q:List Pc}(h:These L q){i:Nat}{c:Lp}(e:L[i]?=some c):q[i]?=some c.p:=by rw[←h,List.getElem?_map,e];rfl
theorem These.mem{L:List Lp}{q:List Pc}(h:These L q){c:Lp}(e:c∈L):c.p∈q:=by rw[←h];exact List.mem_map.2 ⟨c,e,rfl⟩
def aTG(fn:Nat):Prop:=∀(b:Bs) (ao:Option Addr) (cap:Nat) (L:List Lp) (f t d:Int) (bo:Option Addr) (bc:Nat) (ds:List Nat) (w:World),
 zZ b→These L b.q→BRd w ao cap L→R64 f→R64 t→R64 d→Sr w bo ds.length bc (bF (gF ds))→ds.length≤bc→(∀x,x∈ds→x<256)→ds.length≤140737488351232→
 Calls Tryz.prog fn #[lI b.now b.ser (.slice ao L.length cap),.int .i64 f,.int .i64 t,.slice bo ds.length bc,.int .i64 d] w λe w'=>∃(ao':Option Addr) (cap':Nat) (L':List Lp),
  e=.returned (.tuple #[lI (lC b f t ds d).now (lC b f t ds d).ser (.slice ao' L'.length cap'),.int .i64 (kJ b.now b.q.length f t d ds.length:Nat)])∧These L' (lC b f t ds d).q∧BNew w.heap.size w' ao' cap' L'∧Below w.heap.size w w'
def aTN(fn:Nat):Prop:=∀(b:Bs) (ao:Option Addr) (cap:Nat) (L:List Lp) (s a m:Int) (w:World),
 zZ b→These L b.q→BRd w ao cap L→R64 s→R64 a→R64 m→
 Calls Tryz.prog fn #[lI b.now b.ser (.slice ao L.length cap),.int .i64 s,.int .i64 a,.int .i64 m] w λe w'=>∃(ao':Option Addr) (cap':Nat) (L':List Lp),
  e=.returned (.tuple #[lI (mP b s a m).now (mP b s a m).ser (.slice ao' L'.length cap'),.int .i64 (turnE b s a m:Nat)])∧These L' (mP b s a m).q∧BNew w.heap.size w' ao' cap' L'∧Below w.heap.size w w'
theorem xA:zZ jG:=⟨by unfold jG R64;dsimp only;omega,by unfold jG R64;dsimp only;omega,λ_ h=>absurd h (by unfold jG;simp),by show 0≤_;omega⟩
theorem aNa{b:Bs}{f t d:Int}{ds:List Nat}(h:zZ b)(hx:∀x,x∈ds→x<256):zZ (lC b f t ds d):=by
 unfold lC
 split
 ·rename_i he
  unfold kJ at he
  split at he
  ·omega
  ·rename_i h1
   split at he
   ·omega
   ·rename_i h2
    split at he
    ·omega
    ·refine⟨h.1,aOG h.2.1,λp hp=>?_,by rw[List.length_append];show _+1≤_;omega⟩
     rcases List.mem_append.1 hp with hp|hp
     ·exact h.2.2.1 p hp
     ·simp at hp
      subst hp
      exact⟨by unfold R64;dsimp only;omega,by unfold R64;dsimp only;omega,by unfold R64;dsimp only;omega,h.2.1,hx,by dsimp only;omega⟩
 ·exact xA
theorem aKn{b:Bs}{t:Int}(h:zZ b)(ht:R64 t):zZ (jB b t):=by
 unfold jB
 split
 ·exact⟨ht,h.2.1,λp hp=>h.2.2.1 p (List.mem_filter.1 hp).1,Nat.le_trans (List.length_filter_le ..) h.2.2.2⟩
 ·exact xA
theorem aSx{a b:Nat}(ha:a<256)(hb:b<256):a^^^b<256:=Nat.xor_lt_two_pow (n:=8) ha hb
theorem aOZ{a m:Nat}{p:Pc}(h:aCw p)(hm:m<256):aCw (nS a m p):=by
 refine⟨h.1,h.2.1,h.2.2.1,h.2.2.2.1,λx hx=>?_,by rw[vP];exact h.2.2.2.2.2⟩
 rcases List.mem_or_eq_of_mem_set hx with hx|rfl
 ·exact h.2.2.2.2.1 x hx
 ·exact aSx (aNH h.2.2.2.2.1 a) hm
end Go.Proofs.YtdhblehhgpdpdacGreat
