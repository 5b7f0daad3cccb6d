/- Proved: For all tunings and lists of inputs, Run answers exactly the cluster and the reports, or the error, that the frames one after the other tell. -/
import Derived.Test.YthimcecbgpamdaaGreatNear159
namespace Go.Proofs.YthimcecbgpamdaaGreat.clusterRuns
open Go.ChangeShapes Go.WideShapes Go.ChangeAt Go.RowKit
theorem own:ownKnob Tryz.prog.godebug=none:=Yl
theorem aAI:laidOutB Tryz.prog=true:=Yl
set_option maxRecDepth 100000 in
theorem aMb(os:Os)(started:os.Started)(H:Type)(enc:TypeId×Value->H):ReturnsInHanded {} Tryz.checked os 4 .any (Rows.clusterRunsSpec.pre6 enc Tryz.prog Tryz.f4 Rows.clusterRunsRow.domain false) (Rows.clusterRunsSpec.post enc Tryz.prog Tryz.f4 false true false false):=by
 refine returnsInHanded_of_change_sized (C:=Tryz.checked) own started Yl Tryz.func4
  (ChangeSpec.witness6 (enc:=enc) (C:=Tryz.checked) false ⟨#[],#[.agg #[.int .i64 0,.int .i64 0,.int .i64 0,.int .i64 0],.slice none 0 0],[]⟩ 8 Yl Yl Yl Yl) ?_
 intro W base args ds gs before hval0 hW hcnd hsz0 _;have hval:∀(j:Nat) t v,Tryz.f4.params[j]?=some t->args[j]?=some v->Value.okWide Tryz.prog W .any base t v:=hval0;have hsz:(DataW.weightsEach Tryz.prog (Tryz.f4.params.toList++Rows.clusterRunsSpec.plain.varTypes Tryz.prog) (ds++gs)).all (· <=reachBytes)=true:=hsz0;have hW':=hW;obtain⟨p,q,hA0,hV,rfl,hfz,hnd⟩:=hW;have hA:DataW.TrodAll enc Tryz.prog W 0 (λ_=>true) true Tryz.f4.params.toList args.toList ds p:=hA0;rw[Tryz.params4] at hA hval hsz;obtain⟨v0,vs0,d0,ds0,p0,q0,hargs,rfl,rfl,h0,r0⟩:=trodAll_cons hA;obtain⟨v1,vs1,d1,ds1,p1,q1,rfl,rfl,rfl,h1,r1⟩:=trodAll_cons r0;obtain⟨rfl,rfl,rfl⟩:=trodAll_nil r1;obtain rfl:args=#[v0,v1]:=by cases args;simp_all
 obtain⟨rfl,rfl⟩:=trodVars_none hV;have k0:=h0;have lt0:∀x∈p0,x.block<W.heap.size:=by obtain⟨m,hm⟩:=k0;exact DataW.trod_lt m _ _ _ hm
 obtain⟨t0,rfl,ot0⟩:=aAW (hval 0 23 v0 rfl rfl) h0;have k1:=h1;have lt1:∀x∈p1,x.block<W.heap.size:=by obtain⟨m,hm⟩:=k1;exact DataW.trod_lt m _ _ _ hm
 obtain⟨mo1,mc1,L1,rfl,mr1,ok1,ln1,lc1⟩:=PU (hval 1 49 v1 rfl rfl) h1 (λn hn=>by have:=List.all_eq_true.1 hsz _ (DataW.weights_mem_each (j:=1) rfl rfl n hn);simpa using this);clear hA0 hval0 hsz0;refine (FX (w:=W) t0 mo1 mc1 L1 ot0 mr1 ok1 (show _<=140737488351232 from ln1)).mono λe W' ⟨he,hg⟩=>?_
 subst he;exact⟨_,rfl,_,_,_,[],_,[],hW',(trodAll_cons_mk (shut_bool Tryz.underlying4 _) trodAll_mk0),(trodAll_cons_mk (Below.trod aAI Yl (Xu Yl) k0 hg lt0) (trodAll_cons_mk (Below.trod aAI Yl (Xu Yl) k1 hg lt1) trodAll_mk0)),rfl,hg.frame _,λh=>by cases h⟩
theorem over:Rows.clusterRunsRow.holds Tryz.pinned (OpenSpec.ofChange Rows.clusterRunsSpec):=
 OpenClaim.holds_of_wide 4 Tryz.f4 rfl rfl rfl rfl rfl rfl rfl ⟨rfl,rfl,rfl,rfl,rfl⟩ rfl rfl rfl rfl rfl Yl Tryz.func4 Yl
  (Xu Yl) (by unfold Func.isWrapper;first|(rw[if_pos (by decide+kernel)];kernel_rfl)|(rw[if_neg (by decide+kernel)];exact⟨rfl,rfl⟩))
  (λos started H enc _=>aMb os started H enc)
end Go.Proofs.YthimcecbgpamdaaGreat.clusterRuns
namespace Go.Proofs.YthimcecbgpamdaaGreat
theorem clusterRuns_holds:Rows.ClusterRunsSaid:=clusterRuns.over
#print axioms clusterRuns_holds
end Go.Proofs.YthimcecbgpamdaaGreat
