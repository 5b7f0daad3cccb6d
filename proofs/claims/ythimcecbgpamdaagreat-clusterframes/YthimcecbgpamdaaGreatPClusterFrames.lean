/- Proved: For all clusters and inputs, Frame answers exactly the cluster and the reports, or the error, that the document asks. -/
import Derived.Test.YthimcecbgpamdaaGreatNear103
namespace Go.Proofs.YthimcecbgpamdaaGreat.clusterFrames
open Go.ChangeShapes Go.WideShapes Go.ChangeAt Go.RowKit
theorem own:ownKnob Tryz.prog.godebug=none:=Yl
theorem aAX:laidOutB Tryz.prog=true:=Yl
set_option maxRecDepth 100000 in
theorem aLX(os:Os)(started:os.Started)(H:Type)(enc:TypeId×Value->H):ReturnsInHanded {} Tryz.checked os 3 .any (Rows.clusterFramesSpec.pre6 enc Tryz.prog Tryz.f3 Rows.clusterFramesRow.domain false) (Rows.clusterFramesSpec.post enc Tryz.prog Tryz.f3 false true false false):=by
 refine returnsInHanded_of_change_sized (C:=Tryz.checked) own started Yl Tryz.func3
  (ChangeSpec.witness6 (enc:=enc) (C:=Tryz.checked) false ⟨#[],#[.agg ((λ(i b:Value)=>i::(List.replicate 4 (List.replicate 6 i++(List.replicate 3 (List.replicate 5 i++[b,i])).flatten++List.replicate 4 b++List.replicate 41 i++[b,.slice none 0 0])).flatten) (.int .i64 0) (.bool false)).toArray,.agg (List.replicate 13 (Value.int .i64 0)++[Value.slice none 0 0]).toArray],[]⟩ 8 Yl Yl Yl Yl) ?_
 intro W base args ds gs before hval0 hW hcnd hsz0 _;have hval:∀(j:Nat) t v,Tryz.f3.params[j]?=some t->args[j]?=some v->Value.okWide Tryz.prog W .any base t v:=hval0;have hsz:(DataW.weightsEach Tryz.prog (Tryz.f3.params.toList++Rows.clusterFramesSpec.plain.varTypes Tryz.prog) (ds++gs)).all (· <=reachBytes)=true:=hsz0;have hW':=hW;obtain⟨p,q,hA0,hV,rfl,hfz,hnd⟩:=hW;have hA:DataW.TrodAll enc Tryz.prog W 0 (λ_=>true) true Tryz.f3.params.toList args.toList ds p:=hA0;rw[Tryz.params3] at hA hval hsz;obtain⟨v0,vs0,d0,ds0,p0,q0,hargs,rfl,rfl,h0,r0⟩:=trodAll_cons hA;obtain⟨v1,vs1,d1,ds1,p1,q1,rfl,rfl,rfl,h1,r1⟩:=trodAll_cons r0;obtain⟨rfl,rfl,rfl⟩:=trodAll_nil r1;obtain rfl:args=#[v0,v1]:=by cases args;simp_all
 obtain⟨rfl,rfl⟩:=trodVars_none hV;have k0:=h0;have lt0:∀x∈p0,x.block<W.heap.size:=by obtain⟨m,hm⟩:=k0;exact DataW.trod_lt m _ _ _ hm
 obtain⟨fr0,D0,rfl,fo0,ag0⟩:=aBe (hval 0 40 v0 rfl rfl) h0 (λn hn=>by have:=List.all_eq_true.1 hsz _ (DataW.weights_mem_each (j:=0) rfl rfl n hn);simpa using this);have k1:=h1;have lt1:∀x∈p1,x.block<W.heap.size:=by obtain⟨m,hm⟩:=k1;exact DataW.trod_lt m _ _ _ hm
 obtain⟨c1,rfl,ok1,ll1⟩:=UN (hval 1 43 v1 rfl rfl) h1 (λn hn=>by have:=List.all_eq_true.1 hsz _ (DataW.weights_mem_each (j:=1) rfl rfl n hn);simpa using this);clear hA0 hval0 hsz0;refine (Y3 (w:=W) fr0 D0 c1 fo0 ag0 ok1 ll1).mono λe W' ⟨he,hg⟩=>?_
 subst he;exact⟨_,rfl,_,_,_,[],_,[],hW',(trodAll_cons_mk (shut_bool Tryz.underlying4 _) trodAll_mk0),(trodAll_cons_mk (Below.trod aAX Yl (Xu Yl) k0 hg lt0) (trodAll_cons_mk (Below.trod aAX Yl (Xu Yl) k1 hg lt1) trodAll_mk0)),rfl,hg.frame _,λh=>by cases h⟩
theorem over:Rows.clusterFramesRow.holds Tryz.pinned (OpenSpec.ofChange Rows.clusterFramesSpec):=
 OpenClaim.holds_of_wide 3 Tryz.f3 rfl rfl rfl rfl rfl rfl rfl ⟨rfl,rfl,rfl,rfl,rfl⟩ rfl rfl rfl rfl rfl Yl Tryz.func3 Yl
  (Xu Yl) (by unfold Func.isWrapper;first|(rw[if_pos (by decide+kernel)];kernel_rfl)|(rw[if_neg (by decide+kernel)];exact⟨rfl,rfl⟩))
  (λos started H enc _=>aLX os started H enc)
end Go.Proofs.YthimcecbgpamdaaGreat.clusterFrames
namespace Go.Proofs.YthimcecbgpamdaaGreat
theorem clusterFrames_holds:Rows.ClusterFramesSaid:=clusterFrames.over
#print axioms clusterFrames_holds
end Go.Proofs.YthimcecbgpamdaaGreat
