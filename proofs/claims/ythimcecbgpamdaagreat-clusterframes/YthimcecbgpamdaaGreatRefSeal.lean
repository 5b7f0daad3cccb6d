import Derived.Test.YthimcecbgpamdaaGreatNear149
import Derived.Test.YthimcecbgpamdaaGreatStrByte
set_option maxHeartbeats 1000000
namespace Go.Proofs.YthimcecbgpamdaaGreat
open Go.RowKit
theorem DW(ao:Option Addr)(len cap:Nat)(g:Nat->Nat)(w:World)(hg:∀i,g i<256)(hl:len+4<=140737488355328)(hr:Sr w ao len cap (bF g)):Calls Tryz.prog 78 #[.slice ao len cap] w λe w'=>∃v,e=.returned v/\w'.ownsRow w.heap.size 5 1 v (len+4) (rowV (bF (vV g len)) (len+4))/\Below w.heap.size w w':=by
 have HG:=aB hg;have HR:=aB hr;clear hg hr;go_enter Tryz.func78,Tryz.ntmps78
 go_wp2_with fail
 refine (KC ao len cap g _ (aA HG) Yo (aA HR).rd).mono ?_;rintro e w1 ⟨rfl,k1⟩;have hm:=VY 0 g len;obtain⟨s,es⟩:∃s,s=moreN 0 g len:=⟨_,rfl⟩;rw[<-es] at hm ⊢;have ES:=aB es;have K1:=aB k1;have Z1:=aB k1.size;clear es k1;go_wp2_with (at_builtin;refine iO _ rfl _ _ rfl w.heap.size (aA Z1) (.slice none 0 0) 0 [] rfl (World.ownsRow_nil _ _ _ _) ao len cap (bF g) rfl ((aA HR).below (aA K1)) (λi _=>bF_one g i) Yo ?_)
 intro v2 w2 h2 k2
 try rw[Nat.zero_add] at h2
 try rw[List.nil_append] at h2
 have A4:=bU w2 (.cells #[.int .u8 ((s:Int)%256),.int .u8 ((s:Int)/256%256),.int .u8 ((s:Int)/65536%256),.int .u8 ((s:Int)/16777216)] 5);have k3:=(aA K1).trans k2;have H3:=aB (mI h2 A4);have K3:=aB (k3.trans (A4.mono k3.size));have Z3:=aB (k3.trans (A4.mono k3.size)).size;have S3:=aB (show Sr (w2.alloc (.cells #[.int .u8 ((s:Int)%256),.int .u8 ((s:Int)/256%256),.int .u8 ((s:Int)/65536%256),.int .u8 ((s:Int)/16777216)] 5)) (some ⟨w2.heap.size,0,none⟩) 4 4 (bF (tlF s)) from
  Or.inr ⟨_,rfl,λi hi=>by
   rw[Addr.add_lit,Nat.zero_add];refine (Vh.new w2 5 _ (bF (tlF s)) (by show 4<=maxLen;unfold maxLen;omega) (λi hi=>?_)).cell (show i<4 from hi);have:i=0\/i=1\/i=2\/i=3:=by simp at hi;omega
   rcases this with rfl|rfl|rfl|rfl
   .rfl
   .rfl
   .rfl
   .show some (Value.int .u8 ((s:Int)/16777216))=some (Value.int .u8 ((s/16777216%256:Nat):Int));congr 2;omega⟩)
 clear h2 k2 A4 k3;go_wp2_with (at_builtin;refine iO _ rfl _ _ rfl w.heap.size (aA Z3) v2 len (rowV (bF g) len) rfl (aA H3) (some ⟨w2.heap.size,0,none⟩) 4 4 (bF (tlF s)) rfl (aA S3) (λi _=>rfl) Yo ?_)
 intro v4 w4 h4 k4;rw[aA ES,aAa] at h4;have H4:=aB h4;have K4:=aB ((aA K3).trans k4);clear h4 k4;go_wp2_with fail
 go_ret
 exact⟨_,rfl,aA H4,aA K4⟩
theorem XF(v:Value)(w:World):(callFunc 78 #[v]).run Tryz.prog w=.ok (.enter 78 #[v]) w:=Yh
theorem aAc{g:Nat->Nat}(hg:∀i,g i<256)(m:Nat):sB (vV g m) (m+4)=sB g (m+4)↔oN g (m+4):=by
 constructor
 .intro h;refine⟨Yo,λi hi=>?_⟩;rw[show m+4-4=m by omega];have:=aLD (aCr hg m) hg h (m+i) Yo;unfold vV at this;rw[if_neg Yo,Nat.add_sub_cancel_left] at this;exact this.symm
 .rintro⟨_,h⟩;rw[show m+4-4=m by omega] at h;refine aHz (λi hi=>?_);unfold vV;split
  .rfl
  .have:=h (i-m) Yo;rw[show m+(i-m)=i by omega] at this;exact this.symm
theorem uV(ao:Option Addr)(len cap:Nat)(g:Nat->Nat)(w:World)(hg:∀i,g i<256)(hl:len<=140737488355328)(hc:len<=cap)(hr:Rd w ao len (bF g)):Calls Tryz.prog 79 #[.slice ao len cap] w λe w'=>∃v ok,e=.returned (.tuple #[v,.bool ok])/\(ok=true↔oN g len)/\(ok=true->w'.ownsRow w.heap.size 5 1 v (len-4) (rowV (bF g) (len-4)))/\(ok=false->v=.slice none 0 0)/\Below w.heap.size w w':=by
 by_cases h4:len<4
 .clear hr;go_enter Tryz.func79,Tryz.ntmps79
  go_wp2_with fail
  refine wp_leaves (λa0 a' w'=>w'=w.drew/\a'=(((((((((((((((a0.put (some 4) (.slice ao len cap)).put (some 5) (.int .i64 (len:Nat))).put (some 6) (.bool true)).put (some 7) (.bool true)).put (some 8) undef).put (some 9) undef).put (some 10) undef).put (some 11) undef).put (some 12) undef).put (some 13) undef).put (some 14) undef).put (some 15) undef).put (some 16) undef).put (some 17) undef).put (some 18) (.bool true))) ?reg ?rest
  case reg=>
   intro A eA;have b0:A.eval (.tmp 0)=.slice ao len cap:=by rw[eA];rfl
   have hs:25<=A.tmps.size:=by rw[eA];exact Xu rfl
   clear eA;refine oJ (S:=λ_=>True) (.rd 0 (.rd 1 (.rd 2 (.rd 3 (.rd 4 (.rd 5 (.rd 6 (.rd 7 (.rd 8 (.rd 9 (.rd 10 (.rd 11 (.rd 12 (.rd 13 (.rd 14 .fin))))))))))))))) [] Yl Yl ?_;refine bC (v:=(.slice ao len cap)) rfl Yn Yw trivial (λwx _=>dL (.tmp 0) rfl b0 wx) ?_;show SeqI _ _ _ _ _ _ (Act.put _ (some 4) _) _
   refine bC (v:=(.int .i64 (len:Nat))) rfl Yn Yw trivial (λwx _=>M8 (.tmp 4) rfl Et wx) ?_;show SeqI _ _ _ _ _ _ (Act.put _ (some 5) _) _
   refine bC (v:=(.bool true)) rfl Yn Yw trivial (λwx _=>aGJ (.tmp 5) (.const (.int .i64 4)) rfl Es rfl Yo wx) ?_;show SeqI _ _ _ _ _ _ (Act.put _ (some 6) _) _
   refine bC (v:=(.bool true)) rfl Yn Yw trivial (λwx _=>dL (.tmp 6) rfl Es wx) ?_;show SeqI _ _ _ _ _ _ (Act.put _ (some 7) _) _
   refine oW rfl Yn (iW rfl rfl rfl Es Yc) trivial ?_;show SeqI _ _ _ _ _ _ (Act.put _ (some 8) _) _
   refine oW rfl Yn (iW rfl rfl rfl (Ex Es) Yc) trivial ?_;show SeqI _ _ _ _ _ _ (Act.put _ (some 9) _) _
   refine oW rfl Yn (iW rfl rfl rfl (Ex (Ex Es)) Yc) trivial ?_;show SeqI _ _ _ _ _ _ (Act.put _ (some 10) _) _
   refine oW rfl Yn (iW rfl rfl rfl (Ex (Ex (Ex Es))) Yc) trivial ?_;show SeqI _ _ _ _ _ _ (Act.put _ (some 11) _) _
   refine oW rfl Yn (iW rfl rfl rfl (Ex (Ex (Ex (Ex Es)))) Yc) trivial ?_;show SeqI _ _ _ _ _ _ (Act.put _ (some 12) _) _
   refine oW rfl Yn (iW rfl rfl rfl (Ex (Ex (Ex (Ex (Ex Es))))) Yc) trivial ?_;show SeqI _ _ _ _ _ _ (Act.put _ (some 13) _) _
   refine oW rfl Yn (iW rfl rfl rfl (Ex (Ex (Ex (Ex (Ex (Ex Es)))))) Yc) trivial ?_;show SeqI _ _ _ _ _ _ (Act.put _ (some 14) _) _
   refine oW rfl Yn (iW rfl rfl rfl (Ex (Ex (Ex (Ex (Ex (Ex (Ex Es))))))) Yc) trivial ?_;show SeqI _ _ _ _ _ _ (Act.put _ (some 15) _) _
   refine oW rfl Yn (iW rfl rfl rfl (Ex (Ex (Ex (Ex (Ex (Ex (Ex (Ex Es)))))))) Yc) trivial ?_;show SeqI _ _ _ _ _ _ (Act.put _ (some 16) _) _
   refine oW rfl Yn (iW rfl rfl rfl (Ex (Ex (Ex (Ex (Ex (Ex (Ex (Ex (Ex Es))))))))) Yc) trivial ?_;show SeqI _ _ _ _ _ _ (Act.put _ (some 17) _) _
   refine bC (v:=(.bool true)) rfl Yn Yw trivial (λwx _=>aL (.tmp 7) (.const (.bool true)) (.tmp 17) rfl (Ex (Ex (Ex (Ex (Ex (Ex (Ex (Ex (Ex (Ex Es)))))))))) rfl wx) ?_;show SeqI _ _ _ _ _ _ (Act.put _ (some 18) _) _
   refine oP ?_;exact⟨rfl,rfl,rfl⟩
  case rest=>
   rintro a' w3 ⟨rfl,rfl⟩
   go_frame
   go_wp2_with fail
   go_ret2
   exact⟨_,false,rfl,⟨λh=>by (cases h),λh=>absurd h.1 Yo⟩,λh=>by (cases h),λ_=>rfl,aT (Below.refl _ _)⟩
 .obtain⟨m,rfl⟩:∃m,len=m+4:=⟨len-4,Yo⟩;obtain⟨b,o,rfl,hcs⟩:=hr Yo;have HR:=aB hr;have HG:=aB hg;have HC:=aB hcs;have RM:=aB (show Rd w (some ⟨b,o,none⟩) m (bF g) from hr.less Yo);clear hr hg hcs h4;rw[show m+4-4=m by omega];go_enter Tryz.func79,Tryz.ntmps79
  go_wp2_with fail
  refine wp_leaves (λa0 a' w'=>∃(v:Bool) (a1:Option Addr) (c1:Nat),(v=false↔oN g (m+4))/\Below w.heap.size w w'/\a'=(((((((((((((((a0.put (some 4) (.slice (some ⟨b,o,none⟩) (m+4) cap)).put (some 5) (.int .i64 ((m+4:Nat):Int))).put (some 6) (.bool false)).put (some 7) (.bool false)).put (some 8) (.slice (some ⟨b,o,none⟩) (m+4) cap)).put (some 9) (.slice (some ⟨b,o,none⟩) (m+4) cap)).put (some 10) (.int .i64 ((m+4:Nat):Int))).put (some 11) (.int .i64 (m:Nat))).put (some 12) (.slice (some ⟨b,o,none⟩) m cap)).put (some 15) (.slice (some ⟨b,o,none⟩) (m+4) cap)).put (some 16) (.string (sB g (m+4)))).put (some 13) (.slice a1 (m+4) c1)).put (some 14) (.string (sB (vV g m) (m+4)))).put (some 17) (.bool v)).put (some 18) (.bool v))) ?reg ?rest
  case reg=>
   intro A eA;have b0:A.eval (.tmp 0)=.slice (some ⟨b,o,none⟩) (m+4) cap:=by rw[eA];rfl
   have hs:25<=A.tmps.size:=by rw[eA];exact Xu rfl
   have hcs:=aA HC;have hS:Rd w.drew (some ⟨b,o,none⟩) (m+4) (bF g):=(aA HR).below (aT (Below.refl _ _));clear eA;refine oJ (S:=λu=>Rd u (some ⟨b,o,none⟩) (m+4) (bF g)) (.rd 0 (.rd 1 (.rd 2 (.rd 3 (.rd 4 (.rd 5 (.rd 6 (.rd 7 (.rd 8 (.rd 11 (.rd 12 (.go 9 (.go 10 (.rd 13 (.rd 14 .fin))))))))))))))) [] Yl Yl ?_;refine bC (v:=(.slice (some ⟨b,o,none⟩) (m+4) cap)) rfl Yn Yw hS (λwx _=>dL (.tmp 0) rfl b0 wx) ?_;show SeqI _ _ _ _ _ _ (Act.put _ (some 4) _) _
   refine bC (v:=(.int .i64 ((m+4):Nat))) rfl Yn Yw hS (λwx _=>M8 (.tmp 4) rfl Et wx) ?_;show SeqI _ _ _ _ _ _ (Act.put _ (some 5) _) _
   refine bC (v:=(.bool false)) rfl Yn Yw hS (λwx _=>aFI (.tmp 5) (.const (.int .i64 4)) rfl Es rfl Yo wx) ?_;show SeqI _ _ _ _ _ _ (Act.put _ (some 6) _) _
   refine bC (v:=(.bool false)) rfl Yn Yw hS (λwx _=>dL (.tmp 6) rfl Es wx) ?_;show SeqI _ _ _ _ _ _ (Act.put _ (some 7) _) _
   refine bC (v:=(.slice (some ⟨b,o,none⟩) (m+4) cap)) rfl Yn (dB rfl rfl rfl Es) hS (λwx _=>dL (.tmp 0) rfl (Ex (Ex (Ex (Ex b0)))) wx) ?_;show SeqI _ _ _ _ _ _ (Act.put _ (some 8) _) _
   refine bC (v:=(.slice (some ⟨b,o,none⟩) (m+4) cap)) rfl Yn (dB rfl rfl rfl (Ex Es)) hS (λwx _=>dL (.tmp 0) rfl (Ex (Ex (Ex (Ex (Ex b0))))) wx) ?_;show SeqI _ _ _ _ _ _ (Act.put _ (some 9) _) _
   refine bC (v:=(.int .i64 ((m+4:Nat):Int))) rfl Yn (dB rfl rfl rfl (Ex (Ex Es))) hS (λwx _=>M8 (.tmp 9) rfl Es wx) ?_;show SeqI _ _ _ _ _ _ (Act.put _ (some 10) _) _
   refine bC (v:=(.int .i64 (m:Nat))) rfl Yn (dB rfl rfl rfl (Ex (Ex (Ex Es)))) hS (λwx _=>(aHW (.tmp 10) (.const (.int .i64 4)) rfl Es rfl Yo Yo wx).trans (by rw[show ((m+4:Nat):Int)-4=(m:Int) by omega])) ?_;show SeqI _ _ _ _ _ _ (Act.put _ (some 11) _) _
   refine bC (v:=(.slice (some ⟨b,o,none⟩) m cap)) rfl Yn (dB rfl rfl rfl (Ex (Ex (Ex (Ex Es))))) hS (λwx _=>aFz (.tmp 8) (.tmp 11) rfl (Ex (Ex (Ex Es))) Es Yo Yo wx) ?_;show SeqI _ _ _ _ _ _ (Act.put _ (some 12) _) _
   refine bC (v:=(.slice (some ⟨b,o,none⟩) (m+4) cap)) rfl Yn (dB rfl rfl rfl (Ex (Ex (Ex (Ex (Ex Es)))))) hS (λwx _=>dL (.tmp 0) rfl (Ex (Ex (Ex (Ex (Ex (Ex (Ex (Ex (Ex b0))))))))) wx) ?_;show SeqI _ _ _ _ _ _ (Act.put _ (some 15) _) _
   refine bC (v:=(.string (sB g (m+4)))) rfl Yn (dB rfl rfl rfl (Ex (Ex (Ex (Ex (Ex (Ex Es))))))) hS (λwx hx=>OC (.tmp 15) rfl Es hx) ?_;show SeqI _ _ _ _ _ _ (Act.put _ (some 16) _) _
   refine pU rfl (dB rfl rfl rfl (Ex (Ex (Ex (Ex (Ex (Ex (Ex Es)))))))) (λK hK=>?_);refine bN _ 78 (.tmp 12) #[76] rfl (Ex (Ex Es)) (XF _ _) (DW (some ⟨b,o,none⟩) m cap g _ (aA HG) Yo (Or.inr ⟨_,rfl,λi hi=>by rw[Addr.add_lit];exact hcs i Yo⟩)) ?_;rintro e w1 ⟨v,rfl,o1,j1⟩;obtain⟨a1,c1,rfl,r1,n1⟩:=iT o1;have hS1:Rd w1 (some ⟨b,o,none⟩) (m+4) (bF g):=hS.below j1;refine⟨_,rfl,hK _ _ (λ_=>hS1) ?_⟩;clear hK K;show SeqI _ _ _ _ _ _ (Act.put _ (some 13) _) _
   refine pU rfl (dB rfl rfl rfl (Ex (Ex (Ex (Ex (Ex (Ex (Ex (Ex Es))))))))) (λK hK=>?_);refine aMC (v:=.string (sB (vV g m) (m+4))) (OC (.tmp 13) rfl Es r1.rd) ?_;refine hK _ _ (λ_=>hS1) ?_;clear hK K;show SeqI _ _ _ _ _ _ (Act.put _ (some 14) _) _
   by_cases hq:sB (vV g m) (m+4)=sB g (m+4)
   .have hqq:(false=false↔oN g (m+4)):=⟨λ_=>(aAc (aA HG) m).1 hq,λ_=>rfl⟩;refine bC (v:=(.bool false)) rfl Yn (dB rfl rfl rfl (Ex (Ex (Ex (Ex (Ex (Ex (Ex (Ex (Ex Es)))))))))) hS1 (λwx _=>aDi (.tmp 14) (.tmp 16) rfl Es (Ex (Ex Es)) hq wx) ?_;show SeqI _ _ _ _ _ _ (Act.put _ (some 17) _) _
    refine bC (v:=(.bool false)) rfl Yn Yw hS1 (λwx _=>aO (.tmp 7) (.const (.bool true)) (.tmp 17) rfl (Ex (Ex (Ex (Ex (Ex (Ex (Ex (Ex (Ex (Ex Es)))))))))) Es wx) ?_;show SeqI _ _ _ _ _ _ (Act.put _ (some 18) _) _
    refine oP ?_;exact⟨rfl,false,a1,c1,hqq,(aT (Below.refl _ _)).trans j1,rfl⟩
   .have hqq:(true=false↔oN g (m+4)):=⟨λh=>(nomatch h),λh=>absurd ((aAc (aA HG) m).2 h) hq⟩;refine bC (v:=(.bool true)) rfl Yn (dB rfl rfl rfl (Ex (Ex (Ex (Ex (Ex (Ex (Ex (Ex (Ex Es)))))))))) hS1 (λwx _=>aDw (.tmp 14) (.tmp 16) rfl Es (Ex (Ex Es)) hq wx) ?_;show SeqI _ _ _ _ _ _ (Act.put _ (some 17) _) _
    refine bC (v:=(.bool true)) rfl Yn Yw hS1 (λwx _=>aO (.tmp 7) (.const (.bool true)) (.tmp 17) rfl (Ex (Ex (Ex (Ex (Ex (Ex (Ex (Ex (Ex (Ex Es)))))))))) Es wx) ?_;show SeqI _ _ _ _ _ _ (Act.put _ (some 18) _) _
    refine oP ?_;exact⟨rfl,true,a1,c1,hqq,(aT (Below.refl _ _)).trans j1,rfl⟩
  case rest=>
   rintro a' w3 ⟨v,a1,c1,hv,k3,rfl⟩;have HV:=aB hv;have K3:=aB k3;have Z3:=aB k3.size;clear hv k3
   cases v
   .have S3:=aB (show Sr w3 (some ⟨b,o,none⟩) m cap (bF g) from Or.inr ⟨_,rfl,λi hi=>by rw[Addr.add_lit];exact aM (aA HC i Yo) (aA K3)⟩);have hq:=aB ((aA HV).1 rfl);clear HV
    go_frame
    go_wp2_with (at_builtin;refine iO _ rfl _ _ rfl w.heap.size (aA Z3) (.slice none 0 0) 0 [] rfl (World.ownsRow_nil _ _ _ _) (some ⟨b,o,none⟩) m cap (bF g) rfl (aA S3) (λi _=>bF_one g i) Yo ?_)
    intro v4 w4 h4 k4
    try rw[Nat.zero_add] at h4
    try rw[List.nil_append] at h4
    have H4:=aB h4;have K4:=aB ((aA K3).trans k4);clear h4 k4;go_wp2_with fail
    go_ret2
    exact⟨_,true,rfl,⟨λ_=>aA hq,λ_=>rfl⟩,λ_=>aA H4,λh=>by (cases h),aA K4⟩
   .have hq:=aB (show ¬oN g (m+4) from λh=>by (have:=(aA HV).2 h;cases this));clear HV
    go_frame
    go_wp2_with fail
    go_ret2
    exact⟨_,false,rfl,⟨λh=>by (cases h),λh=>absurd h (aA hq)⟩,λh=>by (cases h),λ_=>rfl,aA K3⟩
end Go.Proofs.YthimcecbgpamdaaGreat
