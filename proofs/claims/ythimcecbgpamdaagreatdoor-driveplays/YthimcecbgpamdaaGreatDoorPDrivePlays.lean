/- Proved: for every script, Play of package drive answers exactly what the reference's Play answers, text and error: the statement DrivePlays returns true at every input, and nothing that was in memory turns; the tables of Go's library that are listed are tied to the program's text by the given tie. No condition. -/
import Derived.Test.YthimcecbgpamdaaGreatDoorTie
import Derived.Test.YthimcecbgpamdaaGreatDoorCards
import Derived.LaidMore
import Derived.Lay
import Derived.Test.YthimcecbgpamdaaGreatDoorNear197
namespace Go.Proofs.YthimcecbgpamdaaGreatDoor.drivePlays
open Go.ChangeShapes Go.WideShapes Go.ChangeAt Go.RowKit
open Go.ChangeMaps (open_string shut_string)
theorem own:ownKnob Tryz.prog.godebug=none:=Yl
def aQZ:List Int:=[0,1,56,2,57,49,28,3,61,58,42,50,38,29,17,4,62,47,59,36,45,43,51,22,53,39,33,30,24,18,12,5,63,55,48,27,60,41,37,16,46,35,44,21,52,32,23,11,54,26,40,15,34,20,31,10,25,14,19,9,13,8,7,6]
theorem aOW{W:World}(h:laidMetH Tryz.prog Rows.drivePlaysRow.laid W):TabOK W:=by
 rw[MakeChecks.laidMetH_plain _ _ _ Yl] at h;obtain⟨ps,⟨g0,t0,cs0,f0,p0,q0,hg0,ht0,hv0,hd0,⟨g1,t1,cs1,f1,p1,q1,hg1,ht1,hv1,hd1,⟨g2,t2,cs2,f2,p2,q2,hg2,ht2,hv2,hd2,_,_⟩,_⟩,_⟩,_,_⟩:=h
 have hty : (Tryz.prog.globalNamed "internal/strconv.uint64pow10").bind (fun g => (Tryz.prog.globals[g]?).map (·.type)) = some 221 := by kernel_rfl
 have hg2' : Tryz.prog.globalNamed "internal/strconv.uint64pow10" = some g2 := hg2
 rw[hg2'] at hty;obtain rfl:=Option.some.inj (hty.symm.trans ht2);have hd:DataW.trod _ Tryz.prog W 0 (λ_=>true) _ f2 221 cs2.toList=some (Lib.tabData .u64 Lib.pow10Tab,p2):=hd2
 have hv : W.var? Tryz.prog "internal/strconv.uint64pow10" = some cs2 := hv2
 have hty1 : (Tryz.prog.globalNamed "math/bits.deBruijn64tab").bind (fun g => (Tryz.prog.globals[g]?).map (·.type)) = some 282 := by kernel_rfl
 have hg1' : Tryz.prog.globalNamed "math/bits.deBruijn64tab" = some g1 := hg1
 rw[hg1'] at hty1;obtain rfl:=Option.some.inj (hty1.symm.trans ht1);have hd1':DataW.trod _ Tryz.prog W 0 (λ_=>true) _ f1 282 cs1.toList=some (Lib.tabData .u8 aQZ,p1):=hd1
 have hv1' : W.var? Tryz.prog "math/bits.deBruijn64tab" = some cs1 := hv1
 have hb : Lib.TabIs Tryz.prog W "math/bits.deBruijn64tab" .u8 aQZ := by
  unfold Lib.TabIs;rw[hv1', <-Lib.cells_of_tab Tryz.underlying282 Tryz.underlying5 Yl Yl hd1']
 refine⟨?_,?_⟩
 .unfold Lib.TabIs;rw[hv, <-Lib.cells_of_tab Tryz.underlying221 Tryz.underlying83 Yl Yl hd]
 ·exact hb.cell (show Tryz.prog.globalNamed "math/bits.deBruijn64tab" = some 5 by kernel_rfl) 15 (by decide)
set_option maxRecDepth 100000 in
theorem aRS(os:Os)(started:os.Started)(H:Type)(enc:TypeId×Value->H):ReturnsInHanded {} Tryz.checked os 3 .any (λw args=>(Rows.drivePlaysSpec.pre enc Tryz.prog Tryz.f3 [] false w args/\laidMetH Tryz.prog Rows.drivePlaysRow.laid w)/\sizedMet enc Tryz.prog Tryz.f3 (OpenSpec.ofChange Rows.drivePlaysSpec) false w args) (Rows.drivePlaysSpec.post enc Tryz.prog Tryz.f3 false true false false):=by
 refine JN (C:=Tryz.checked) (X:=λw=>laidMetH Tryz.prog Rows.drivePlaysRow.laid w) (λ_ _ hh h=>h.of_heap hh) own started Yl Tryz.func3
  (ChangeSpec.witness_shaped (enc:=enc) (C:=Tryz.checked) (os:=os) (X:=λw _=>laidMetH Tryz.prog Rows.drivePlaysRow.laid w) false (World.laidAll Tryz.prog os Rows.drivePlaysRow.laid) #[.string ByteArray.empty] 8 (World.laidAll_os _ _ _)
   (World.shaped_of_ZipB Yl Yl) Yl Yl Yl
   (by rw[MakeChecks.laidMetH_plain _ _ _ Yl];exact laidMet_laidAll _ Yl Yl)) ?_
 intro W base args ds gs before hval0 hW hsz0 hL hsh;have hval:∀(j:Nat) t v,Tryz.f3.params[j]?=some t->args[j]?=some v->Value.okWide Tryz.prog W .any base t v:=hval0;have hsz:(DataW.weightsEach Tryz.prog (Tryz.f3.params.toList++Rows.drivePlaysSpec.plain.varTypes Tryz.prog) (ds++gs)).all (· <=reachBytes)=true:=hsz0;have hW':=hW;obtain⟨p,q,hA0,hV,rfl,hfz,hnd⟩:=hW;have hA:DataW.TrodAll enc Tryz.prog W 0 (λ_=>true) true Tryz.f3.params.toList args.toList ds p:=hA0;rw[Tryz.params3] at hA hval hsz;obtain⟨v0,d0,rfl,rfl,h0⟩:=trodAll_one hA;obtain⟨rfl,rfl⟩:=trodVars_none hV;obtain⟨s0,rfl,rfl,rfl,ws⟩:=open_string Tryz.underlying9 (hval 0 9 v0 rfl rfl) h0;have htab:=aOW hL;obtain⟨mx,hm⟩:=Go.Proofs.cell_of_shapedOpen_int (g:=1) (zero:=#[.int .i64 0]) (t:=3) hsh (Xu Yl) Yl rfl Yl Yl Tryz.underlying3;clear hA0 hval0 hsz0;simp only[List.append_nil] at hW';have hwk:=PX s0.data.toList mx W hm htab;rw[show tV s0.data.toList=.string s0 by unfold tV;simp] at hwk;refine hwk.mono λe W' ⟨he,hg⟩=>?_;subst he;exact⟨_,rfl,_,_,_,[],_,[],hW',trodAll_mk1 (shut_bool Tryz.underlying4 _),trodAll_mk1 (shut_string Tryz.underlying9 ws),rfl,hg.frame _,λh=>by cases h⟩
theorem aR0:(Rows.drivePlaysRow.inPlace==Tryz.pinned.checked.prog.inPlace 3)=true:=by kernel_rfl
theorem aR1:(Rows.drivePlaysRow.unfollowed==Tryz.pinned.checked.prog.unfollowed 3)=true:=by kernel_rfl
theorem aR2:(Rows.drivePlaysRow.recurses==Tryz.pinned.checked.prog.recurses 3)=true:=by kernel_rfl
theorem aR3:(Rows.drivePlaysRow.named==Tryz.pinned.checked.prog.varsNamed 3)=true:=by kernel_rfl
theorem aRJ:joinedFacts Tryz.pinned.checked.prog 3 Tryz.f3 Rows.drivePlaysSpec Rows.drivePlaysRow=true:=by
 unfold joinedFacts;simp only[Bool.and_eq_true];and_intros
 all_goals first|with_reducible exact aR0|with_reducible exact aR1|with_reducible exact aR2|with_reducible exact aR3|kernel_rfl
theorem row_holds:Rows.DrivePlaysSaid:=
 OpenClaim.holds_of_wide 3 Tryz.f3 rfl rfl rfl rfl rfl rfl rfl ⟨rfl,rfl,rfl,rfl,rfl⟩ rfl rfl rfl rfl rfl Yl Tryz.func3 aRJ
  (Xu Yl) (by unfold Func.isWrapper;first|(rw[if_pos (by decide+kernel)];kernel_rfl)|(rw[if_neg (by decide+kernel)];exact⟨rfl,rfl⟩))
  (λos started H enc _=>aRS os started H enc)
end Go.Proofs.YthimcecbgpamdaaGreatDoor.drivePlays
namespace Go.Proofs.YthimcecbgpamdaaGreatDoor
theorem aC0:Rows.drivePlaysRow.wfByText (OpenSpec.ofChange Rows.drivePlaysSpec)=true:=by kernel_rfl
theorem aC1:Tryz.pinned.checked.prog.mainIs=some (Rows.drivePlaysCard.stood.harness.1,Rows.drivePlaysCard.stood.harness.2.toList):=by kernel_rfl
theorem aC2:false=Tryz.pinned.checked.prog.looks []:=by kernel_rfl
theorem aC3:false=Rows.drivePlaysRow.goesBy Tryz.pinned.checked.prog:=by kernel_rfl
theorem aC4:([9].all λu=> !Tryz.prog.wantsStandIn u)=true:=by kernel_rfl
theorem aC5:Tryz.prog.funcNamed "fourwatch/fourwatchlaw.DrivePlays"=some 3:=by kernel_rfl
theorem drivePlays_card_holds:Rows.DrivePlaysCardSaid:=
 Claim7.holds_tied_plain_at .later [] [.data,.data,.data,.data,.pinned] true Rows.drivePlaysCard.stood.harness false
  drivePlays.row_holds (λ_ h=>by cases h) aC0 (λ_ h=>by cases h) drivePlays_row_tie rfl ⟨rfl,rfl⟩ aC1 rfl
  (λf fn hf hfn=>by
   obtain rfl : f = 3 := Option.some.inj (aC5.symm.trans hf) |>.symm
   obtain rfl:fn=Tryz.f3:=(Option.some.inj (Tryz.func3.symm.trans hfn)).symm;exact⟨aC2,λj t ht=>by
    rw[Tryz.params3] at ht;have hm:t∈[9]:=by simpa using Array.mem_of_getElem? ht
    exact (show Tryz.prog.wantsStandIn t=false by simpa using List.all_eq_true.1 aC4 t hm)⟩)
  aC3
#print axioms drivePlays_card_holds
end Go.Proofs.YthimcecbgpamdaaGreatDoor
