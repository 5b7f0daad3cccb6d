import Derived.Test.YthimcecbgpamdaaGreatDoorRows
import Derived.HandedShaped
import Derived.ProofKit
import Derived.Stop.Joined
import Derived.OrdersHeld
import Derived.WalkKit
open _root_ renaming Nat->L,Array->γ,List->η,if_pos->ο
open Option renaming some->O,none->ν
open Go renaming World->U,Act->V,bits->Z,Oper->β,execOp->δ,undef->ζ,yielded->θ,Program->ι,Exit->κ,Calls->μ,callFunc->π,Operand->ρ
open Go.Region renaming ready->Y,wanted->ε
open BitVec renaming ofInt->ξ
open Array renaming replicate->σ
namespace Go.Proofs.YthimcecbgpamdaaGreatDoor
section
abbrev iG(b:L):Value:=.pointer (O ⟨b,0,ν⟩)
abbrev _root_.Go.Act.iQ(a:V)(k:L):Value:=a.eval (.tmp k)
abbrev iY(n:Int):Value:=.int .i64 n
abbrev nS(w w':U):Prop:=Go.RowKit.Below w.heap.size w w'
noncomputable abbrev uC:=Tryz.prog
noncomputable abbrev wI:=μ Tryz.prog
noncomputable abbrev wW(f:ρ->Value)(o:β)(v:Value)(w:U):Prop:=(δ f o).run Tryz.prog w=.ok (.value v) w
theorem wZ{α}(a:α):∃x,x=a:=⟨_,rfl⟩
theorem yZ{α}(a:α):∃x,a=x:=⟨_,rfl⟩
abbrev AZ(b n c:L):Value:=.slice (O ⟨b,0,ν⟩) n c
theorem Om{p:Prop}(h:p:=by (cases h)):p:=h
theorem M8{p:Prop}(h:p:=by cases e:gd r i with|false=>rfl|true=>have:=(aA G).1 e;omega):p:=h
theorem Nv{p:Prop}(h:p:=by cases h):p:=h
theorem Ov{p:Prop}(h:p:=by congr 1;omega):p:=h
theorem Ou{p:Prop}(h:p:=by exact aA HX2):p:=h
theorem Je{p:Prop}(h:p:=by go_num):p:=h
theorem Na{p:Prop}(h:p:=by have e1:=(o5.lt _ e).1;have e2:=(o5.lt _ e).2;omega):p:=h
theorem Mo{p:Prop}(h:p:=by have:=Xg h;omega):p:=h
theorem Jg{p:Prop}(h:p:=by have:=Xg hc;omega):p:=h
theorem Mk{p:Prop}(h:p:=by have:=Xu h;omega):p:=h
theorem Jf{p:Prop}(h:p:=by have:=Xu hc;omega):p:=h
theorem Mx{p:Prop}(h:p:=by have:=aP (hc 0 Yo) k1;rw[show bF g 0=.int .u8 87 by unfold bF bV;rw[h3];rfl] at this;exact this):p:=h
theorem Nk{p:Prop}(h:p:=by have:=hc 0 Yo;rw[show bF g 0=.int .u8 87 by unfold bF bV;rw[h3];rfl] at this;exact this):p:=h
theorem Ni{p:Prop}(h:p:=by obtain⟨r,h1,h2⟩:=h e w' hr;exact⟨r,h1,hK _ _ h2⟩):p:=h
theorem Mq{p:Prop}(h:p:=by rfl):p:=h
theorem NG{p:Prop}(h:p:=by rw[<-CF];exact Ac mm12 (vQ _ _ _ x hin)):p:=h
theorem Ow{p:Prop}(h:p:=by rw[<-hO.x];rfl):p:=h
theorem Oq{p:Prop}(h:p:=by rw[<-hb,Bool.eq_iff_iff];simp):p:=h
theorem Ol{p:Prop}(h:p:=by rw[Ai];omega):p:=h
theorem Oj{p:Prop}(h:p:=by rw[Ct.1 hu];rfl):p:=h
theorem Jb{p:Prop}(h:p:=by rw[Eb];omega):p:=h
theorem Mv{p:Prop}(h:p:=by rw[Xt (show gL v 21<0\/15<gL v 21\/gL v 22<0\/4095<gL v 22\/gL v 23<0\/4095<gL v 23 by omega)]):p:=h
theorem Jd{p:Prop}(h:p:=by rw[aA E1,aA E2,aA HQ];rfl):p:=h
theorem Oa{p:Prop}(h:p:=by rw[aA E];rfl):p:=h
theorem Np{p:Prop}(h:p:=by rw[aA G];rfl):p:=h
theorem Ot{p:Prop}(h:p:=by rw[aA N];rfl):p:=h
theorem FO{p:Prop}(h:p:=by rw[aA e1,aA e2];rfl):p:=h
theorem Nz{p:Prop}(h:p:=by rw[e0];rfl):p:=h
theorem Nr{p:Prop}(h:p:=by rw[eA];exact Xu rfl):p:=h
theorem Nl{p:Prop}(h:p:=by rw[eA];rfl):p:=h
theorem Oh{p:Prop}(h:p:=by rw[eT,Ig];intro u hu;exact pW _ 4 (λi _=>rfl) u (by simpa using hu)):p:=h
theorem Oc{p:Prop}(h:p:=by rw[eT];rw[Ig];intro u hu;exact pW tabF 256 (λi _=>rfl) u (by simpa using hu)):p:=h
theorem Oe{p:Prop}(h:p:=by rw[hO.x] at hD';exact (hD' i hi).trans (p3 i hi)):p:=h
theorem Og{p:Prop}(h:p:=by rw[h] at hr;cases hr):p:=h
theorem D8{p:Prop}(h:p:=by rw[hl1,show ((M.length+1:Nat):Int)-1=((M.length:Nat):Int) by omega]):p:=h
theorem Mw{p:Prop}(h:p:=by rw[hno];decide):p:=h
theorem Nj{p:Prop}(h:p:=by show (w.heap.push _)[w.heap.size]?=_;rw[Bt]):p:=h
theorem Mr{p:Prop}(h:p:=by show (w.heap.push _)[w.heap.size]?=_;rw[Bt];rfl):p:=h
theorem Od{p:Prop}(h:p:=by show 1<=maxLen;decide):p:=h
theorem Mt{p:Prop}(h:p:=by simp):p:=h
theorem Nq{p:Prop}(h:p:=by simp at hi;omega):p:=h
theorem Nf{p:Prop}(h:p:=by simp only[Ag,Ai,Au];omega):p:=h
theorem Ng{p:Prop}(h:p:=by simp only[Ai,Au];omega):p:=h
theorem Nn{p:Prop}(h:p:=by simp only[En,Em,Ag,Ai,Au];omega):p:=h
theorem Mm{p:Prop}(h:p:=by simp;omega):p:=h
theorem FN{p:Prop}(h:p:=by simp[World.setCell];exact kB.size):p:=h
theorem Ny{p:Prop}(h:p:=by simp[results,Tryz.results166,go_sem,p0,p1,p2,p3,p4,p5,p6]):p:=h
theorem bH{p:Prop}(h:p:=by simp[results,Tryz.results98,go_sem,iB,p0,p1,p2,p3]):p:=h
theorem lD{p:Prop}(h:p:=by simp[results,Tryz.results98,go_sem,iB]):p:=h
theorem Ns{p:Prop}(h:p:=by simpa using h):p:=h
theorem Jc{p:Prop}(h:p:=by simpa using hi):p:=h
theorem Nw{p:Prop}(h:p:=by unfold MgAt at h;unfold World.cell?;rw[h];rfl):p:=h
theorem Ml{p:Prop}(h:p:=by unfold R64;omega):p:=h
theorem Oi{p:Prop}(h:p:=by unfold VdAt at h;unfold World.cell?;rw[h];rfl):p:=h
theorem Nu{p:Prop}(h:p:=by unfold absZ;split<;>omega):p:=h
theorem Nb{p:Prop}(h:p:=by unfold gU;simp[results,Tryz.results106,go_sem,p0,p1,p2,p3,p4,p5,p6,p7,p8,p9,p10,p11]):p:=h
theorem Nc{p:Prop}(h:p:=by unfold gU;simp[results,Tryz.results130,go_sem,p0,p1,p2,p3,p4,p5,p6,p7,p8,p9,p10,p11]):p:=h
theorem Oo{p:Prop}(h:p:=by unfold jE;rw[show 0+k*1=k by omega,e1]):p:=h
theorem Ob{p:Prop}(h:p:=by unfold sH;rw[if_neg Yo];split<;>decide):p:=h
section
open Go Go.RowKit
theorem Gm:type_of% @Option.some.injEq:=@Option.some.injEq
theorem Gl:type_of% @Prod.mk.injEq:=@Prod.mk.injEq
theorem Eg:type_of% @Tryz.underlying178:=@Tryz.underlying178
theorem Iw:type_of% @ByteArray.mk_append_mk:=@ByteArray.mk_append_mk
theorem Gj:type_of% @Tryz.underlying33:=@Tryz.underlying33
theorem Fp:type_of% @Oper.upon_enter:=@Oper.upon_enter
theorem Ja:type_of% @List.eq_nil_of_length_eq_zero:=@List.eq_nil_of_length_eq_zero
theorem Er:type_of% @Tryz.underlying38:=@Tryz.underlying38
theorem Eu:type_of% @Option.map_eq_some_iff:=@Option.map_eq_some_iff
theorem Mj:type_of% @Nat.and_two_pow_sub_one_eq_mod:=@Nat.and_two_pow_sub_one_eq_mod
theorem Iy:type_of% @List.mem_iff_getElem:=@List.mem_iff_getElem
theorem Iu:type_of% @Nat.div_div_eq_div_mul:=@Nat.div_div_eq_div_mul
theorem Ir:type_of% @Int.tdiv_eq_ediv_of_nonneg:=@Int.tdiv_eq_ediv_of_nonneg
theorem Iq:type_of% @Int.tmod_eq_emod_of_nonneg:=@Int.tmod_eq_emod_of_nonneg
theorem Fg:type_of% @Tryz.underlying34:=@Tryz.underlying34
theorem Mi:type_of% @Int.add_mul_emod_self_left:=@Int.add_mul_emod_self_left
theorem Mh:type_of% @Int.ediv_ediv_of_nonneg:=@Int.ediv_ediv_of_nonneg
theorem JH:type_of% @Nat.mod_two_eq_zero_or_one:=@Nat.mod_two_eq_zero_or_one
theorem Il:type_of% @Array.size_replicate:=@Array.size_replicate
theorem xK:type_of% @Int.le_ediv_iff_mul_le:=@Int.le_ediv_iff_mul_le
theorem Ih:type_of% @Int.ediv_eq_zero_of_lt:=@Int.ediv_eq_zero_of_lt
theorem Gr:type_of% @Bool.true_and:=@Bool.true_and
theorem Ig:type_of% @Array.all_eq_true_iff_forall_mem:=@Array.all_eq_true_iff_forall_mem
theorem Ff:type_of% @Tryz.underlying37:=@Tryz.underlying37
theorem wE:type_of% @Nat.xor_lt_two_pow:=@Nat.xor_lt_two_pow
theorem uV:type_of% @List.take_append_drop:=@List.take_append_drop
theorem uG:type_of% @Nat.lt_trichotomy:=@Nat.lt_trichotomy
theorem Io:type_of% @Nat.mul_le_mul_right:=@Nat.mul_le_mul_right
theorem Iz:type_of% @Int.mul_lt_mul_of_pos_right:=@Int.mul_lt_mul_of_pos_right
theorem Ic:type_of% @Nat.add_sub_cancel_left:=@Nat.add_sub_cancel_left
theorem Ik:type_of% @decide_eq_false_iff_not:=@decide_eq_false_iff_not
theorem Ij:type_of% @Array.getElem?_eq_none:=@Array.getElem?_eq_none
theorem Hz:type_of% @List.take_length:=@List.take_length
theorem Hy:type_of% @List.take_of_length_le:=@List.take_of_length_le
theorem Hu:type_of% @heap_alloc_new:=@heap_alloc_new
theorem Ht:type_of% @Nat.mod_eq_of_lt:=@Nat.mod_eq_of_lt
theorem Hq:type_of% @Tryz.underlying5:=@Tryz.underlying5
theorem Ho:type_of% @List.getElem?_toArray:=@List.getElem?_toArray
theorem Hw:type_of% @List.range_succ:=@List.range_succ
theorem Im:type_of% @Array.getElem?_toList:=@Array.getElem?_toList
theorem rZ:type_of% @Int.mul_le_mul:=@Int.mul_le_mul
theorem Hl:type_of% @Option.not_isSome_iff_eq_none:=@Option.not_isSome_iff_eq_none
theorem Hf:type_of% @Int.add_comm:=@Int.add_comm
theorem He:type_of% @Nat.pow_zero:=@Nat.pow_zero
theorem Gz:type_of% @List.Sublist.cons_cons:=@List.Sublist.cons_cons
theorem Gw:type_of% @Tryz.ntmps141:=@Tryz.ntmps141
theorem Gv:type_of% @Tryz.func141:=@Tryz.func141
theorem Gu:type_of% @Nat.div_eq_of_lt:=@Nat.div_eq_of_lt
theorem Gt:type_of% @Tryz.ntmps49:=@Tryz.ntmps49
theorem Gq:type_of% @Tryz.ntmps224:=@Tryz.ntmps224
theorem Gp:type_of% @Tryz.func224:=@Tryz.func224
theorem Gn:type_of% @Nat.zero_mul:=@Nat.zero_mul
theorem Dw:type_of% @Tryz.underlying32:=@Tryz.underlying32
theorem Ia:type_of% @Nat.div_lt_iff_lt_mul:=@Nat.div_lt_iff_lt_mul
theorem Hm:type_of% @Int.toNat_natCast:=@Int.toNat_natCast
theorem Gf:type_of% @List.pairwise_cons:=@List.pairwise_cons
theorem Gc:type_of% @Array.getD_eq_getD_getElem?:=@Array.getD_eq_getD_getElem?
theorem Ie:type_of% @List.getElem?_take:=@List.getElem?_take
theorem Hr:type_of% @List.getElem?_append_right:=@List.getElem?_append_right
theorem Ii:type_of% @Int.ediv_lt_iff_lt_mul:=@Int.ediv_lt_iff_lt_mul
theorem Gb:type_of% @Option.isSome_iff_exists:=@Option.isSome_iff_exists
theorem Fx:type_of% @UInt8.toNat_inj:=@UInt8.toNat_inj
theorem Fw:type_of% @List.take_append_getElem:=@List.take_append_getElem
theorem Fu:type_of% @Tryz.underlying72:=@Tryz.underlying72
theorem Gh:type_of% @Nat.sub_self:=@Nat.sub_self
theorem Fq:type_of% @run_underlying:=@run_underlying
theorem Fj:type_of% @Int.neg_mul:=@Int.neg_mul
theorem qN:type_of% @Nat.mod_lt:=@Nat.mod_lt
theorem Fs:type_of% @List.getElem?_append_left:=@List.getElem?_append_left
theorem Cn:type_of% @wpOp_mono:=@wpOp_mono
theorem yJ:type_of% @Int.natCast_add:=@Int.natCast_add
theorem Ez:type_of% @List.cons_append:=@List.cons_append
theorem Ew:type_of% @Nat.add_assoc:=@Nat.add_assoc
theorem Fh:type_of% @Int.ediv_le_self:=@Int.ediv_le_self
theorem iN:type_of% @Nat.add_mul:=@Nat.add_mul
theorem Gg:type_of% @List.ext_getElem?:=@List.ext_getElem?
theorem Gy:type_of% @World.block_lt_of_cell?:=@World.block_lt_of_cell?
theorem gG:type_of% @Int.natCast_mul:=@Int.natCast_mul
theorem Fy:type_of% @Int.one_mul:=@Int.one_mul
theorem Ib:type_of% @Int.mul_right_comm:=@Int.mul_right_comm
theorem Ga:type_of% @Int.mul_neg:=@Int.mul_neg
theorem En:type_of% @List.flatten_cons:=@List.flatten_cons
theorem Em:type_of% @List.flatten_nil:=@List.flatten_nil
theorem El:type_of% @List.nil_sublist:=@List.nil_sublist
theorem Fv:type_of% @Nat.not_lt_zero:=@Nat.not_lt_zero
theorem Ef:type_of% @info_parts:=@info_parts
theorem Ey:type_of% @Nat.add_comm:=@Nat.add_comm
theorem Gi:type_of% @List.getElem?_eq_some_iff:=@List.getElem?_eq_some_iff
theorem Fa:type_of% @Int.zero_mul:=@Int.zero_mul
theorem Ev:type_of% @Tryz.underlying9:=@Tryz.underlying9
theorem Ee:type_of% @List.mem_cons_self:=@List.mem_cons_self
theorem Ec:type_of% @Tryz.underlying139:=@Tryz.underlying139
theorem Dy:type_of% @ByteArray.toList_eq:=@ByteArray.toList_eq
theorem Dx:type_of% @Option.map_none:=@Option.map_none
theorem Ej:type_of% @Nat.pow_le_pow_right:=@Nat.pow_le_pow_right
theorem Du:type_of% @List.mem_cons_of_mem:=@List.mem_cons_of_mem
theorem aB:type_of% @Int.eq_ofNat_of_zero_le:=@Int.eq_ofNat_of_zero_le
theorem Cv:type_of% @decide_eq_true_eq:=@decide_eq_true_eq
theorem Df:type_of% @List.mem_range:=@List.mem_range
theorem Dp:type_of% @Option.some.inj:=@Option.some.inj
theorem Ea:type_of% @List.length_take:=@List.length_take
theorem Eh:type_of% @List.mem_map:=@List.mem_map
theorem Hg:type_of% @Int.mul_nonneg:=@Int.mul_nonneg
theorem Dj:type_of% @List.getElem_mem:=@List.getElem_mem
theorem Di:type_of% @List.not_mem_nil:=@List.not_mem_nil
theorem Cc:type_of% @Option.map_some:=@Option.map_some
theorem Dq:type_of% @Addr.add_lit:=@Addr.add_lit
theorem Ed:type_of% @Int.sub_mul:=@Int.sub_mul
theorem Fz:type_of% @Int.mul_ediv_add_emod:=@Int.mul_ediv_add_emod
theorem Ei:type_of% @Int.ediv_nonneg:=@Int.ediv_nonneg
theorem De:type_of% @List.mem_append:=@List.mem_append
theorem Ct:type_of% @List.mem_singleton:=@List.mem_singleton
theorem Dc:type_of% @decide_eq_decide:=@decide_eq_decide
theorem Da:type_of% @List.nil_append:=@List.nil_append
theorem Cz:type_of% @Tryz.underlying65:=@Tryz.underlying65
theorem Cy:type_of% @List.perm_middle:=@List.perm_middle
theorem Cw:type_of% @List.map_congr_left:=@List.map_congr_left
theorem Ep:type_of% @Int.mul_one:=@Int.mul_one
theorem Cj:type_of% @List.all_eq_true:=@List.all_eq_true
theorem Cs:type_of% @Nat.mul_one:=@Nat.mul_one
theorem Dk:type_of% @Nat.mul_comm:=@Nat.mul_comm
theorem Co:type_of% @List.size_toArray:=@List.size_toArray
theorem Dh:type_of% @List.getElem?_eq_none:=@List.getElem?_eq_none
theorem Fe:type_of% @Int.emod_lt_of_pos:=@Int.emod_lt_of_pos
theorem Fb:type_of% @Int.emod_nonneg:=@Int.emod_nonneg
theorem Dz:type_of% @Nat.lt_of_lt_of_le:=@Nat.lt_of_lt_of_le
theorem Br:type_of% @Bool.and_eq_true:=@Bool.and_eq_true
theorem Cu:type_of% @Nat.mul_assoc:=@Nat.mul_assoc
theorem Dl:type_of% @Int.mul_le_mul_of_nonneg_left:=@Int.mul_le_mul_of_nonneg_left
theorem Db:type_of% @IntKind.wrap_i64:=@IntKind.wrap_i64
theorem Ck:type_of% @List.length_range:=@List.length_range
theorem Ce:type_of% @List.append_assoc:=@List.append_assoc
theorem Cr:type_of% @List.getElem?_range:=@List.getElem?_range
theorem Cb:type_of% @List.map_append:=@List.map_append
theorem Cq:type_of% @lt_of_block:=@lt_of_block
theorem Dm:type_of% @Int.mul_add:=@Int.mul_add
theorem Cg:type_of% @Nat.pow_succ:=@Nat.pow_succ
theorem Eb:type_of% @IntKind.wrap_u64:=@IntKind.wrap_u64
theorem Bv:type_of% @List.mem_cons:=@List.mem_cons
theorem Bz:type_of% @heap_setCell_same:=@heap_setCell_same
theorem Ci:type_of% @Int.mul_le_mul_of_nonneg_right:=@Int.mul_le_mul_of_nonneg_right
theorem Ca:type_of% @Int.pow_add:=@Int.pow_add
theorem Bw:type_of% @Int.pow_succ:=@Int.pow_succ
theorem Bt:type_of% @Array.getElem?_push_size:=@Array.getElem?_push_size
theorem Bu:type_of% @List.getElem?_map:=@List.getElem?_map
theorem Bq:type_of% @Nat.le_of_eq:=@Nat.le_of_eq
theorem Bo:type_of% @Sem.run_pure:=@Sem.run_pure
theorem Cm:type_of% @Int.lt_or_le:=@Int.lt_or_le
theorem Ay:type_of% @List.map_toArray:=@List.map_toArray
theorem Bh:type_of% @List.getD_eq_getElem?_getD:=@List.getD_eq_getElem?_getD
theorem Bj:type_of% @Nat.eq_zero_or_pos:=@Nat.eq_zero_or_pos
theorem Bf:type_of% @List.getElem?_eq_getElem:=@List.getElem?_eq_getElem
theorem Bp:type_of% @Int.le_refl:=@Int.le_refl
theorem Be:type_of% @List.append_nil:=@List.append_nil
theorem Bb:type_of% @Result.andThen_ok:=@Result.andThen_ok
theorem Bi:type_of% @Int.add_mul:=@Int.add_mul
theorem Az:type_of% @List.map_nil:=@List.map_nil
theorem Aw:type_of% @List.map_cons:=@List.map_cons
theorem Aq:type_of% @Sem.run_bind:=@Sem.run_bind
theorem Av:type_of% @Int.mul_assoc:=@Int.mul_assoc
theorem Au:type_of% @List.length_nil:=@List.length_nil
theorem Ba:type_of% @Int.le_of_lt:=@Int.le_of_lt
theorem Bc:type_of% @Int.mul_comm:=@Int.mul_comm
theorem Ar:type_of% @Nat.lt_or_ge:=@Nat.lt_or_ge
theorem Ao:type_of% @List.length_map:=@List.length_map
theorem Ap:type_of% @Nat.le_trans:=@Nat.le_trans
theorem Am:type_of% @World.ownsRow_nil:=@World.ownsRow_nil
theorem Ah:type_of% @Nat.zero_add:=@Nat.zero_add
theorem Ai:type_of% @List.length_cons:=@List.length_cons
theorem Ag:type_of% @List.length_append:=@List.length_append
theorem Af:type_of% @Below.refl:=@Below.refl
theorem Ae:type_of% @Eq.trans:=@Eq.trans
theorem Ab:type_of% @Or.inr:=@Or.inr
theorem Aa:type_of% @Or.inl:=@Or.inl
end
open Go
theorem Yg{p:Prop}(h:p:=by unfold execOp;rw[ho];dsimp only;rw[hx];go_simp):p:=h
theorem Yh{p:Prop}(h:p:=by go_simp):p:=h
theorem Yjq{p:Prop}(h:p:=by unfold execOp;rw[ho];dsimp only;rw[hx,hy];go_simp):p:=h
theorem Ykq{p:Prop}(h:p:=by unfold execOp;rw[ho];dsimp only;rw[hx];rfl):p:=h
theorem Xr(n:L):n<=n:=Nat.le_refl n
variable{p:Prop}
theorem Xt[Decidable p](h:p):decide p=true:=decide_eq_true h
theorem Xf[Decidable p](h:¬p):decide p=false:=decide_eq_false h
theorem Xu[Decidable p](h:decide p=true):p:=of_decide_eq_true h
theorem Xg[Decidable p](h:decide p=false):¬p:=of_decide_eq_false h
theorem Xz(n):0<=n:=Nat.zero_le n
theorem Yo(h:p:=by omega):p:=h
theorem Yw(h:p:=by exact fE rfl):p:=h
theorem Yn(h:p:=by exact λ_ _ _ h=>absurd h.1 (λe=>nomatch e)):p:=h
theorem Yc(h:p:=by decide):p:=h
theorem Yd(h:p:=by exact Xu rfl):p:=h
theorem Yl(h:p:=by kernel_rfl):p:=h
theorem Ym(h:p:=by unfold maxLen;omega):p:=h
theorem Ypq(h:p:=by simp only[Int.reducePow];omega):p:=h
theorem Yf(h:p:=by exact ZK rfl (by omega)):p:=h
theorem YA(h:p:=by exact (szL _ _).trans hs):p:=h
theorem YB(h:p:=by exact (aTB _ _).trans hd):p:=h
theorem YC(h:p:=by rw[yJ];rfl):p:=h
theorem YD(h:p:=by exact λe=>by have e1:=(o4.lt _ e).1;have e2:=(o4.lt _ e).2;omega):p:=h
theorem Yb(h:p:=by exact F6 rfl (by assumption)):p:=h
variable{conds:η PathCond}
theorem JN{H}{enc:TypeId×Value->H}{a}{C}{os}{f}{fn}{s}{apart fresh handsOn again}{X:U->Prop}(hX:∀w w',w.heap=w'.heap->X w->X w')(own:ownKnob C.prog.godebug=ν)(started:os.Started)(noInit:C.prog.inits.idxOf? f=ν)(hfn:C.prog.funcs[f]?=O fn)(witness:∃(w:U) (tape:Tape) (i:Input),w.os=os/\(w.forCall tape i).Shaped C.prog/\i.vars=[]/\Input.okWide C.prog (w.forCall tape i) .any w.heap.size f i/\((s.pre enc C.prog fn conds apart (w.forCall tape i).memory i.args/\X (w.forCall tape i).memory)/\sizedMet enc C.prog fn (OpenSpec.ofChange s) apart (w.forCall tape i).memory i.args)/\a.holds C.prog (lone (Frame.enter C.prog f i.args .normal) [] (w.forCall tape i)))(contract:∀(W) base args (ds gs) before,(∀(j:L) t v,fn.params[j]?=O t->args[j]?=O v->Value.okWide C.prog W .any base t v)->DataW.Whole enc C.prog fn.params.toList s.vars apart W args.toList ds gs before->(DataW.weightsEach C.prog (fn.params.toList++s.plain.varTypes C.prog) (ds++gs)).all (· <=reachBytes)=true->X W->W.ShapedOpen C.prog->μ C.prog f args W λe W'=>∃v,e=.returned v/\s.post enc C.prog fn apart fresh handsOn again W args v W'):ReturnsInHanded a C os f .any (λw args=>(s.pre enc C.prog fn conds apart w args/\X w)/\sizedMet enc C.prog fn (OpenSpec.ofChange s) apart w args) (s.post enc C.prog fn apart fresh handsOn again):=by refine returnsInHanded_of_calls own started noInit witness ?_;intro w tape i _ hsh _ hok hpre _;obtain⟨_,_,_,g,hg,_,_,_,_,hval⟩:=hok;obtain rfl:g=fn:=Dp (hg.symm.trans hfn);obtain⟨⟨⟨ds,gs,before,hw,_⟩,hx⟩,hz⟩:=hpre;refine (contract (w.forCall tape i) w.heap.size i.args ds gs before hval (DataW.Whole.of_heap Mq hw) (hz.weights hw) (hX _ _ Mq hx) hsh).mono λe W' ⟨v,he,hp⟩=>?_;subst he;exact ChangeSpec.post_blind hp
inductive PlanJ where
 |fin
 |rd (i:L) (r:PlanJ)
 |mv (i:L) (r:PlanJ)
 |go (i:L) (r:PlanJ)
 |two (i j:L) (ri rj:PlanJ)
 |three (i j k:L) (ri rj rk:PlanJ)
def PlanJ.len:PlanJ->L
 |.fin=>0
 |.rd _ r=>r.len+1
 |.mv _ r=>r.len+1
 |.go _ r=>r.len+1
 |.two _ _ r _=>r.len+1
 |.three _ _ _ r _ _=>r.len+1
section
variable {P:ι} {ops:γ β} {Q:κ->V->U->Prop} {md:Region.Mode} {S:U->Prop} {late:L->Bool}
def ShutDown(md:Region.Mode)(ops:γ β)(listed:γ Bool):Prop:=
 ∀j oj,ops[j]?=O oj->listed.getD j false=true->∀e∈oj.after,Region.binds md e=true->listed.getD e.on false=true
variable{i:L}{listed:γ Bool}
theorem ShutDown.set(h:ShutDown md ops listed)(hi:i∈Y md ops listed):ShutDown md ops (listed.setIfInBounds i true):=by
 obtain⟨_,oi,hoi,hall⟩:=mem_ready.1 hi;intro j oj hj hl e he hb;by_cases hij:i=j
 .subst hij;obtain rfl:oj=oi:=Dp (hj.symm.trans hoi);exact getD_set_true (hall e he hb)
 rw[getD_set_ne false hij] at hl;exact getD_set_true (h j oj hj hl e he hb)
theorem uL(n):ShutDown md ops (σ n false):=by
 intro j oj _ hl;rcases Ar j n with h|h
 .simp[h] at hl
 simp[h] at hl
def reachB(md:Region.Mode)(ops:γ β):L->L->L->Bool
 |0,_,_=>false
 |f+1,j,i=>match ops[j]? with
  |some oj=>oj.after.any λe=>Region.binds md e&&(e.on==i||reachB md ops f e.on i)
  |none=>false
theorem L9(h:ShutDown md ops listed):∀(f j i:L),reachB md ops f j i=true->(∀oj,ops[j]?=O oj->∀e∈oj.after,Region.binds md e=true->listed.getD e.on false=true)->listed.getD i false=true
 |0,_,_,hr,_=>by cases hr
 |f+1,j,i,hr,hp=>by
  unfold reachB at hr;split at hr
  .rename_i oj hj;obtain⟨e,he,hb⟩:=Array.any_eq_true'.1 hr;simp only[Br,Bool.or_eq_true,beq_iff_eq] at hb;have hl:=hp oj hj e he hb.1;rcases hb.2 with h1|h1
   .rw[h1] at hl;exact hl
   exact L9 h f e.on i h1 (λoe hoe e' he' hb'=>h e.on oe hoe hl e' he' hb')
  cases hr
theorem P7(h:listed.getD i true=false):listed.getD i false=false:=by grind
def nJ(l:η L):L->Bool:=λj=>l.contains j
def Y4(P:ι)(md:Region.Mode)(ops:γ β)(Q:κ->V->U->Prop)(S:U->Prop)(late:L->Bool):L->γ Bool->V->U->Prop
 |0,listed,a,w=>Y md ops listed=[]/\Q .normal a w
 |fuel+1,listed,a,w=>
  (Y md ops listed=[]->Q .normal a w)/\
  ∀i∈Y md ops listed,wpOp P ops Q i (λa' w'=>(late i=false->S w->S w')/\Y4 P md ops Q S late fuel (listed.setIfInBounds i true) a' w') a w
theorem LP:∀(fuel:L) (listed:γ Bool) (a:V) (w:U),Y4 P md ops Q S late fuel listed a w->wpAny P md ops Q fuel listed a w
 |0,_,_,_,h=>h
 |fuel+1,_,_,_,h=>⟨h.1,λi hi=>Cn (λa' w' k=>LP fuel _ a' w' k.2) (h.2 i hi)⟩
variable{oi:β}{v:Value}
theorem aEO{N}(hi:ops[i]?=O oi)(hsel:∀(j:L) o cs b,ops[j]?=O o->o.op≠.select cs b)(hQ:∀c a w,Q (.panic c) (a.put oi.dst v) w->Q (.panic c) a w)(hlate:∀j,late j=true->reachB md ops N j i=true):∀(fuel) listed a w,ShutDown md ops listed->(∀j oj,ops[j]?=O oj->j≠i->listed.getD j true=false->(∀e∈oj.after,Region.binds md e=true->e.on≠i)->oi.apart ops oj=true)->i∈Y md ops listed->YieldsIf P ops S oi v a->S w->Y4 P md ops Q S late fuel (listed.setIfInBounds i true) (a.put oi.dst v) w->Y4 P md ops Q S late (fuel+1) listed a w:=by
 intro fuel;induction fuel with
 |zero=>
  intro listed a w _ _ hr hy A H;refine⟨λh=>Og,λj q=>?_⟩;by_cases d:j=i
  .subst d;exact hy.wpOp hi A ⟨λ_ h=>h,H⟩
  have:=ready_mono q d;rw[H.1] at this;cases this
 |succ fuel ih=>
  intro listed a w y f hr hy A H;refine⟨λh=>Og,λj q=>?_⟩;have l:=(mem_ready.1 hr).1;by_cases d:j=i
  .subst d;exact hy.wpOp hi A ⟨λ_ h=>h,H⟩
  obtain⟨s,oj,n,p⟩:=mem_ready.1 q;have I:late j=false:=by
   cases h:late j
   .rfl
   have:=L9 y N j i (hlate j h) (λo ho e B hb=>by obtain rfl:o=oj:=Dp (ho.symm.trans n);exact p e B hb);rw[P7 l] at this;cases this
  have t:∀e∈oj.after,Region.binds md e=true->e.on≠i:=λe B hb C=>by have h2:=p e B hb;rw[C,P7 l] at h2;cases h2
  have h2:=wpOp_putIf n (f j oj n d s t) (λcs b=>hsel i oi cs b hi) (λcs b=>hsel j oj cs b n) hQ hy (H.2 j (ready_mono q d));have m : ∀ k z, ops[k]? = O z -> k ≠ i -> (listed.setIfInBounds j true).getD k true = false ->
    (∀e∈z.after,Region.binds md e=true->e.on≠i)->oi.apart ops z=true:=λk z K F l hno=>by
   refine f k z K F ?_ hno;by_cases D:j=k
   .grind
   .rw[getD_set_ne true D] at l;exact l
  refine Cn (λJ w' h3=>⟨h3.2.1,ih (listed.setIfInBounds j true) J w' (y.set q) m (ready_mono hr (Ne.symm d)) h3.1 (h3.2.1 I A) ?_⟩) h2;rw[Array.setIfInBounds_comm _ _ d];exact h3.2.2
theorem aGm(hi:ops[i]?=O oi)(hsel:∀(j:L) o cs b,ops[j]?=O o->o.op≠.select cs b)(hQ:∀c a w,Q (.panic c) (a.put oi.dst v) w->Q (.panic c) a w):∀(fuel) listed a w,(∀j oj,ops[j]?=O oj->j≠i->listed.getD j true=false->(∀e∈oj.after,Region.binds md e=true->e.on≠i)->oi.apart ops oj=true)->i∈Y md ops listed->YieldsIf P ops (λ_=>True) oi v a->Y4 P md ops Q S late fuel (listed.setIfInBounds i true) (a.put oi.dst v) w->Y4 P md ops Q S late (fuel+1) listed a w:=by
 intro fuel;induction fuel with
 |zero=>
  intro listed a w _ hr hy H;refine⟨λh=>Og,λj y=>?_⟩;by_cases d:j=i
  .subst d;exact hy.wpOp hi trivial ⟨λ_ h=>h,H⟩
  have:=ready_mono y d;rw[H.1] at this;cases this
 |succ fuel ih=>
  intro listed a w f hr hy H;refine⟨λh=>Og,λj y=>?_⟩;have m:=(mem_ready.1 hr).1;by_cases d:j=i
  .subst d;exact hy.wpOp hi trivial ⟨λ_ h=>h,H⟩
  obtain⟨q,oj,n,p⟩:=mem_ready.1 y;have s:∀e∈oj.after,Region.binds md e=true->e.on≠i:=λe D hb z=>by have h2:=p e D hb;rw[z,P7 m] at h2;cases h2
  have h2:=wpOp_putIf n (f j oj n d q s) (λcs b=>hsel i oi cs b hi) (λcs b=>hsel j oj cs b n) hQ hy (H.2 j (ready_mono y d));have l : ∀ k t, ops[k]? = O t -> k ≠ i -> (listed.setIfInBounds j true).getD k true = false ->
    (∀e∈t.after,Region.binds md e=true->e.on≠i)->oi.apart ops t=true:=λk t F B m hno=>by
   refine f k t F B ?_ hno;by_cases A:j=k
   .grind
   .rw[getD_set_ne true A] at m;exact m
  refine Cn (λC w' h3=>⟨h3.2.1,ih (listed.setIfInBounds j true) C w' l (ready_mono hr (Ne.symm d)) h3.1 ?_⟩) h2;rw[Array.setIfInBounds_comm _ _ d];exact h3.2.2
def Y5(P:ι)(ops:γ β)(Q:κ->V->U->Prop)(S:U->Prop)(late:L->Bool):PlanJ->V->U->Prop
 |.fin,a,w=>Q .normal a w
 |.rd i r,a,w=>∃o v,ops[i]?=O o/\YieldsIf P ops S o v a/\S w/\(∀c a w,Q (.panic c) (a.put o.dst v) w->Q (.panic c) a w)/\Y5 P ops Q S late r (a.put o.dst v) w
 |.mv i r,a,w=>∃o v,ops[i]?=O o/\YieldsIf P ops (λ_=>True) o v a/\(∀c a w,Q (.panic c) (a.put o.dst v) w->Q (.panic c) a w)/\Y5 P ops Q S late r (a.put o.dst v) w
 |.go i r,a,w=>wpOp P ops Q i (λa' w'=>(late i=false->S w->S w')/\Y5 P ops Q S late r a' w') a w
 | .two i j ri rj, a, w => wpOp P ops Q i (λa' w' => (late i = false -> S w -> S w') /\ Y5 P ops Q S late ri a' w') a w /\
   wpOp P ops Q j (λa' w'=>(late j=false->S w->S w')/\Y5 P ops Q S late rj a' w') a w
 | .three i j k ri rj rk, a, w => wpOp P ops Q i (λa' w' => (late i = false -> S w -> S w') /\ Y5 P ops Q S late ri a' w') a w /\
   wpOp P ops Q j (λa' w'=>(late j=false->S w->S w')/\Y5 P ops Q S late rj a' w') a w/\
   wpOp P ops Q k (λa' w'=>(late k=false->S w->S w')/\Y5 P ops Q S late rk a' w') a w
def pF(md:Region.Mode)(ops:γ β)(late:L->Bool):PlanJ->γ Bool->Bool
 |.fin,listed=>(Y md ops listed).isEmpty
 |.rd i r,listed=>(Y md ops listed).contains i&&Region.free md ops listed i&&(List.range ops.size).all (λj=> !late j||reachB md ops ops.size j i)&&pF md ops late r (listed.setIfInBounds i true)
 |.mv i r,listed=>(Y md ops listed).contains i&&Region.free md ops listed i&&pF md ops late r (listed.setIfInBounds i true)
 |.go i r,listed=>decide (Y md ops listed=[i])&&pF md ops late r (listed.setIfInBounds i true)
 |.two i j ri rj,listed=>decide (Y md ops listed=[i,j])&&decide (ri.len=rj.len)&&pF md ops late ri (listed.setIfInBounds i true)&&pF md ops late rj (listed.setIfInBounds j true)
 |.three i j k ri rj rk,listed=>decide (Y md ops listed=[i,j,k])&&decide (ri.len=rj.len)&&decide (ri.len=rk.len)&&pF md ops late ri (listed.setIfInBounds i true)&&pF md ops late rj (listed.setIfInBounds j true)&&pF md ops late rk (listed.setIfInBounds k true)
theorem lF(hs:Region.noSelect ops=true)(hlt:∀j,late j=true->j<ops.size):∀(l:PlanJ) (listed:γ Bool) (a:V) (w:U),pF md ops late l listed=true->ShutDown md ops listed->Y5 P ops Q S late l a w->Y4 P md ops Q S late l.len listed a w
 |.fin,listed,a,w,hb,_,h=>⟨by simpa [pF] using hb,h⟩
 |.rd i r,listed,a,w,hb,hd,h=>by
  simp only[pF,Br,Bool.not_eq_true',Cj,Df,Bool.or_eq_true] at hb;obtain⟨⟨⟨h1,h2⟩,h4⟩,h5⟩:=hb;obtain⟨o,v,ho,hy,hS,hQ,hr⟩:=h;have hri:i∈Y md ops listed:=by simpa using h1
  exact aEO ho (Region.noSelect_spec hs) hQ (N:=ops.size) (λj hj=>by
   rcases h4 j (hlt j hj) with h|h
   .rw[hj] at h;cases h
   exact h) r.len listed a w hd (Region.free_spec ho h2) hri hy hS (lF hs hlt r _ _ _ h5 (hd.set hri) hr)
 |.mv i r,listed,a,w,hb,hd,h=>by
  simp only[pF,Br] at hb;obtain⟨⟨h1,h2⟩,h5⟩:=hb;obtain⟨o,v,ho,hy,hQ,hr⟩:=h;have hri:i∈Y md ops listed:=by simpa using h1
  exact aGm ho (Region.noSelect_spec hs) hQ r.len listed a w (Region.free_spec ho h2) hri hy (lF hs hlt r _ _ _ h5 (hd.set hri) hr)
 |.go i r,listed,a,w,hb,hd,h=>by
  simp only[pF,Br,Cv] at hb;obtain⟨h1,h2⟩:=hb;have hri:i∈Y md ops listed:=by rw[h1];simp
  refine⟨λh0=>(by rw[h1] at h0;cases h0),λj hj=>?_⟩;rw[h1] at hj;obtain rfl:j=i:=by simpa using hj
  exact Cn (λa' w' k=>⟨k.1,lF hs hlt r _ _ _ h2 (hd.set hri) k.2⟩) h
 |.two i j ri rj,listed,a,w,hb,hd,h=>by
  simp only[pF,Br,Cv] at hb;obtain⟨⟨⟨h1,h2⟩,h3⟩,h4⟩:=hb;have hi:i∈Y md ops listed:=by rw[h1];simp
  have hj:j∈Y md ops listed:=by rw[h1];simp
  refine⟨λh0=>(by rw[h1] at h0;cases h0),λk hk=>?_⟩;rw[h1] at hk;have hk2:k=i\/k=j:=by simpa using hk
  rcases hk2 with rfl|rfl
  .exact Cn (λa' w' q=>⟨q.1,lF hs hlt ri _ _ _ h3 (hd.set hi) q.2⟩) h.1
  refine Cn (λa' w' q=>⟨q.1,?_⟩) h.2;have:=lF hs hlt rj _ a' w' h4 (hd.set hj) q.2;show Y4 P md ops Q S late ri.len _ a' w';rw[h2];exact this
 |.three i j k ri rj rk,listed,a,w,hb,hd,h=>by
  simp only[pF,Br,Cv] at hb;obtain⟨⟨⟨⟨⟨h1,h2⟩,h2b⟩,h3⟩,h4⟩,h5⟩:=hb;have hi:i∈Y md ops listed:=by rw[h1];simp
  have hj:j∈Y md ops listed:=by rw[h1];simp
  have hk0:k∈Y md ops listed:=by rw[h1];simp
  refine⟨λh0=>(by rw[h1] at h0;cases h0),λq hq=>?_⟩;rw[h1] at hq;have hk2:q=i\/q=j\/q=k:=by simpa using hq
  rcases hk2 with rfl|rfl|rfl
  .exact Cn (λa' w' q=>⟨q.1,lF hs hlt ri _ _ _ h3 (hd.set hi) q.2⟩) h.1
  .refine Cn (λa' w' q=>⟨q.1,?_⟩) h.2.1;have:=lF hs hlt rj _ a' w' h4 (hd.set hj) q.2;show Y4 P md ops Q S late ri.len _ a' w';rw[h2];exact this
  refine Cn (λa' w' q=>⟨q.1,?_⟩) h.2.2;have:=lF hs hlt rk _ a' w' h5 (hd.set hk0) q.2;show Y4 P md ops Q S late ri.len _ a' w';rw[h2b];exact this
structure SeqJ (P:ι) (ops:γ β) (Q:κ->V->U->Prop) (S:U->Prop) (late:L->Bool) (l:PlanJ) (a:V) (w:U):Prop where
 out:Y5 P ops Q S late l a w
variable{a:V}{id:L}{w:U}
theorem aKV(l:PlanJ)(lt:η L)(hm:P.follows .mixedOrders=true)(hb:(Region.noSelect ops&&lt.all (λj=>decide (j<ops.size))&&decide (l.len=ops.size)&&pF .any ops (nJ lt) l (σ ops.size false))=true)(h:SeqJ P ops Q S (nJ lt) l a w.drew):(Code.region id ops true).wp P Q a w:=by
 simp only[Br,Cv] at hb;obtain⟨⟨⟨h1,h2⟩,h3⟩,d⟩:=hb;have c:=lF (P:=P) (Q:=Q) (S:=S) h1 (λj f=>by have:=List.all_eq_true.1 h2 j (by simpa [nJ] using f);simpa using this) l _ a w.drew d (uL ops.size) h.out;rw[h3] at c;exact wp_region_any hm (LP _ _ _ _ c)
theorem BK(h:Q .normal a w):SeqJ P ops Q S late .fin a w:=⟨h⟩
variable{o:β}{r:PlanJ}
theorem aPF(ho:ops[i]?=O o)(hQ:∀c a w,Q (.panic c) (a.put o.dst v) w->Q (.panic c) a w)(hw:ε o (θ ops a.tmps)=true)(hS:S w)(hy:∀w,S w->(δ a.eval o).run P w=.ok (.value v) w)(h:SeqJ P ops Q S late r (a.put o.dst v) w):SeqJ P ops Q S late (.rd i r) a w:=⟨⟨o,v,ho,Aa ⟨hw,hy⟩,hS,hQ,h.out⟩⟩
theorem aTn(ho:ops[i]?=O o)(hQ:∀c a w,Q (.panic c) (a.put o.dst v) w->Q (.panic c) a w)(hw:ε o (θ ops a.tmps)=true)(hy:∀w,(δ a.eval o).run P w=.ok (.value v) w)(h:SeqJ P ops Q S late r (a.put o.dst v) w):SeqJ P ops Q S late (.mv i r) a w:=⟨⟨o,v,ho,Aa ⟨hw,λw _=>hy w⟩,hQ,h.out⟩⟩
theorem aPG(ho:ops[i]?=O o)(hQ:∀c a w,Q (.panic c) (a.put o.dst ζ) w->Q (.panic c) a w)(hw:ε o (θ ops a.tmps)=false)(h:SeqJ P ops Q S late r (a.put o.dst ζ) w):SeqJ P ops Q S late (.mv i r) a w:=⟨⟨o,ζ,ho,Ab ⟨hw,rfl⟩,hQ,h.out⟩⟩
def aUl:η (Nat×Bool)->PlanJ
 |[]=>.fin
 |(i,false)::r=>.rd i (aUl r)
 |(i,true)::r=>.go i (aUl r)
def lX(P:ι)(ops:γ β)(Q:κ->V->U->Prop)(S:U->Prop)(late:L->Bool)(l:η (Nat×Bool))(a:V)(w:U):Prop:=Y5 P ops Q S late (aUl l) a w
theorem dY(l:η (Nat×Bool))(lt:η L)(hm:P.follows .mixedOrders=true)(hb:(Region.noSelect ops&&lt.all (λj=>decide (j<ops.size))&&decide ((aUl l).len=ops.size)&&pF .any ops (nJ lt) (aUl l) (σ ops.size false))=true)(h:lX P ops Q S (nJ lt) l a w.drew):(Code.region id ops true).wp P Q a w:=aKV (aUl l) lt hm hb ⟨h⟩
theorem fZ(h:Q .normal a w):lX P ops Q S late [] a w:=h
variable{r:η (Nat×Bool)}
theorem bG(ho:ops[i]?=O o)(hQ:∀c a w,Q (.panic c) (a.put o.dst v) w->Q (.panic c) a w)(hw:ε o (θ ops a.tmps)=true)(hS:S w)(hy:∀w,S w->(δ a.eval o).run P w=.ok (.value v) w)(h:lX P ops Q S late r (a.put o.dst v) w):lX P ops Q S late ((i,false)::r) a w:=
 ⟨o,v,ho,Aa ⟨hw,hy⟩,hS,hQ,h⟩
theorem bD(ho:ops[i]?=O o)(h:∀K,(∀a w,(late i=false->S w)->lX P ops Q S late r a w->K a w)->if ε o (θ ops a.tmps)=true then Oper.wp P o a w K Q else K (a.put o.dst ζ) w):lX P ops Q S late ((i,true)::r) a w:=
 show wpOp P ops Q i (λa' w'=>(late i=false->S w->S w')/\Y5 P ops Q S late (aUl r) a' w') a w from wpOp_step ho (λK' hK=>h K' (λa w h1 h2=>hK a w ⟨λq _=>h1 q,h2⟩))
end
theorem aCg(a:V)(d:L)(v):(a.put (O d) v).tmps.size=a.tmps.size:=by show (a.tmps.setIfInBounds d v).size=_;simp
theorem aRo(a:V)(d e:L)(v)(h:d<a.tmps.size):(a.put (O d) v).eval (.tmp e)=if d=e then v else a.eval (.tmp e):=by
 show (a.tmps.setIfInBounds d v).getD e ζ=if d=e then v else a.tmps.getD e ζ
 by_cases he:d=e
 .simp_all
 simp_all
theorem UJ(a:V)(d)(v)(h:d<a.tmps.size):(a.put (O d) v).eval (.tmp d)=v:=by rw[aRo a d d v h,ο rfl]
variable{d e:L}
theorem F5(a:V)(v)(h:d≠e):(a.put (O d) v).eval (.tmp e)=a.eval (.tmp e):=by show (a.tmps.setIfInBounds d v).getD e ζ=a.tmps.getD e ζ;simp[h]
variable{a:V}{v:Value}
theorem Eo(h:d≠e:=by decide):(a.put (O d) v).eval (.tmp e)=a.eval (.tmp e):=F5 a v h
theorem Es(h:d<a.tmps.size:=by simp only[aCg];omega):(a.put (O d) v).eval (.tmp d)=v:=UJ a d v h
theorem Et(h:d<a.tmps.size:=by omega):(a.put (O d) v).eval (.tmp d)=v:=UJ a d v h
theorem Ex{u:Value}(k:a.eval (.tmp e)=u)(h:d≠e:=by decide):(a.put (O d) v).eval (.tmp e)=u:=(F5 a v h).trans k
theorem aL(a:V)(v):a.eval (.const v)=v:=rfl
theorem aBz(a:V)(d e:L)(v u)(h:e<d):(a.put (O d) v).put (O e) u=(a.put (O e) u).put (O d) v:=
 Act.put_comm a v u (λx hx hy=>by cases hx;cases hy;omega)
variable{P:ι}{f:ρ->Value}{o:β}
theorem fC(x)(ho:o.op=.move x)(h:f x=v)(w):(δ f o).run P w=.ok (.value v) w:=by subst h;unfold δ;rw[ho];rfl
theorem mI(x)(ho:o.op=.assign x)(h:f x=v)(w):(δ f o).run P w=.ok (.value v) w:=by subst h;unfold δ;rw[ho];rfl
theorem aK(c x y)(ho:o.op=.pick c x y)(hc:f c=.bool true)(hx:f x=v)(w):(δ f o).run P w=.ok (.value v) w:=by go_simp
theorem aM(c x y)(ho:o.op=.pick c x y)(hc:f c=.bool false)(hy:f y=v)(w):(δ f o).run P w=.ok (.value v) w:=by go_simp
variable{b:Bool}
theorem tZ(x)(t)(ho:o.op=.unOp .not t x)(hx:f x=.bool b)(w):(δ f o).run P w=.ok (.value (.bool (!b))) w:=Yg
variable{Q:κ->V->U->Prop}{w:U}
theorem wp_leaves{c:Code}(R:V->V->U->Prop)(h:∀a0,a0=a->c.wp P (λe a' w'=>e=.normal/\R a0 a' w') a0 w)(k:∀a' w',R a a' w'->Q .normal a' w'):c.wp P Q a w:=
 Code.wp_mono (λe a' w' ⟨he,hr⟩=>by rw[he];exact k a' w' hr) (h a rfl)
variable{ys:L->Option Bool}
theorem fE(hg:o.guard=ν):ε o ys=true:=by simp[ε,hg]
variable{ops:γ β}
theorem dW{oj:β}{j:L}(hg:o.guard=O (j,b))(hj:ops[j]?=O oj)(hd:oj.dst=O d)(hv:a.eval (.tmp d)=.bool b):ε o (θ ops a.tmps)=true:=by
 have e:a.tmps[d]?=O (.bool b):=by
  have h2:a.tmps.getD d ζ=.bool b:=hv;rcases Ar d a.tmps.size with h|h
  .simp[h] at h2 ⊢;exact h2
  simp[Array.getElem?_eq_none h] at h2;cases h2
 simp[ε,hg,θ,hj,hd,e]
theorem kE{oj:β}{j:L}{c:Bool}(hg:o.guard=O (j,b))(hj:ops[j]?=O oj)(hd:oj.dst=O d)(hv:a.eval (.tmp d)=.bool c)(hb:c≠b):ε o (θ ops a.tmps)=false:=by
 have e:a.tmps[d]?=O (.bool c):=by
  have h2:a.tmps.getD d ζ=.bool c:=hv;rcases Ar d a.tmps.size with h|h
  .simp[h] at h2 ⊢;exact h2
  simp[Array.getElem?_eq_none h] at h2;cases h2
 simp[ε,hg,θ,hj,hd,e,hb]
structure WpI (P:ι) (o:β) (a:V) (w:U) (K:V->U->Prop) (Q:κ->V->U->Prop):Prop where
 out:Oper.wp P o a w K Q
section
variable {P:ι} {ops:γ β} {Q:κ->V->U->Prop} {S:U->Prop} {late:L->Bool}
variable{K:V->U->Prop}
theorem aSR(hr:(δ a.eval o).run P w=.ok (.value v) w)(h:K (a.put o.dst v) w):WpI P o a w K Q:=by refine⟨?_⟩;unfold Oper.wp;rw[hr];exact h
variable{R:Ending->U->Prop}
theorem aUh(w)(n:L)(xs:η ρ)(T)(ho:o.op=.call { callee:=.value (.func n),args:=xs.toArray,argTypes:=T }){vs}(hx:xs.map a.eval=vs)(hf:(π n vs.toArray).run P w=.ok (.enter n vs.toArray) w)(hc:μ P n vs.toArray w R)(h:∀e w',R e w'->∃r,e=.returned r/\K (a.put o.dst r) w'):WpI P o a w K Q:=by
 refine⟨?_⟩;have e:(δ a.eval o).run P w=.ok (.enter n vs.toArray) w:=by unfold δ;rw[ho];simp only[resolve,invoke,Aq,Ay,hx];go_simp
 unfold Oper.wp;rw[e,Fp];refine hc.mono ?_;intro e w' hr;obtain⟨r,rfl,hk⟩:=h e w' hr;exact hk
theorem bM(w)(n:L)(x)(T)(ho:o.op=.call { callee:=.value (.func n),args:=#[x],argTypes:=T })(hx:a.eval x=v)(hf:(π n #[v]).run P w=.ok (.enter n #[v]) w)(hc:μ P n #[v] w R)(h:∀e w',R e w'->∃r,e=.returned r/\K (a.put o.dst r) w'):WpI P o a w K Q:=
 aUh w n [x] T ho (by simp only[Aw,Az,hx]) hf hc h
theorem eB(w)(n:L)(x y)(T)(ho:o.op=.call { callee:=.value (.func n),args:=#[x,y],argTypes:=T }){u}(hx:a.eval x=v)(hy:a.eval y=u)(hf:(π n #[v,u]).run P w=.ok (.enter n #[v,u]) w)(hc:μ P n #[v,u] w R)(h:∀e w',R e w'->∃r,e=.returned r/\K (a.put o.dst r) w'):WpI P o a w K Q:=
 aUh w n [x,y] T ho (by simp only[Aw,Az,hx,hy]) hf hc h
theorem Q0(w)(n:L)(T)(ho:o.op=.call { callee:=.value (.func n),args:=#[],argTypes:=T })(hf:(π n #[]).run P w=.ok (.enter n #[]) w)(hc:μ P n #[] w R)(h:∀e w',R e w'->∃r,e=.returned r/\K (a.put o.dst r) w'):WpI P o a w K Q:=
 aUh w n [] T ho rfl hf hc h
end
end
section
open Go.RowKit
def R64(a:Int):Prop:= -9223372036854775808<=a/\a<=9223372036854775807
def gD(z:Int):Int:=if z< -9223372036854775808 then -9223372036854775808 else if 9223372036854775807<z then 9223372036854775807 else z
def fO(z:Int):Bool:=decide (z< -9223372036854775808)||decide (9223372036854775807<z)
theorem D5(z):R64 (gD z):=by
 unfold gD R64;split
 .omega
 split<;>omega
variable{z:Int}
theorem yG(h:R64 z):gD z=z:=by unfold gD;obtain⟨h1,h2⟩:=h;omega
theorem vJ(h:R64 z):fO z=false:=by unfold fO;obtain⟨h1,h2⟩:=h;grind
theorem yH(h:9223372036854775807<z):gD z=9223372036854775807:=by unfold gD;omega
theorem C8(h:9223372036854775807<z):fO z=true:=by unfold fO;rw[Xt h];simp
theorem uR(h:z< -9223372036854775808):gD z= -9223372036854775808:=by unfold gD;rw[ο h]
theorem wR(h:z< -9223372036854775808):fO z=true:=by unfold fO;rw[Xt h];rfl
theorem aCA(h:fO z=false):R64 z:=by unfold fO at h;simp at h;exact⟨Yo,Yo⟩
theorem KE(v:BitVec 64):IntKind.i64.wrap v.toNat<0↔v.msb=true:=by rw[BitVec.msb_eq_decide,Db,Cv];omega
theorem W9(x)(h:R64 x):(ξ 64 x).msb=decide (x<0):=by obtain⟨h1,h2⟩:=h;rw[BitVec.msb_eq_decide,BitVec.toNat_ofInt];grind
theorem qW(x y)(hx:R64 x)(hy:R64 y):Z .and .i64 x y<0↔(x<0/\y<0):=by show IntKind.i64.wrap ((ξ 64 x &&& ξ 64 y).toNat:Int)<0↔_;rw[KE,BitVec.msb_and,W9 x hx,W9 y hy];simp
theorem lY(x y)(hx:R64 x)(hy:R64 y):Z .xor .i64 x y<0↔¬(x<0↔y<0):=by show IntKind.i64.wrap ((ξ 64 x^^^ξ 64 y).toNat:Int)<0↔_;rw[KE,BitVec.msb_xor,W9 x hx,W9 y hy];grind
theorem aGj(n):R64 (IntKind.i64.wrap n):=by rw[Db];unfold R64;omega
theorem nT(x y):R64 (Z .xor .i64 x y):=by exact aGj _
theorem FK(n):R64 (wrap64 n):=by unfold wrap64 R64;omega
theorem aQS(a b)(ha:R64 a)(hb:R64 b)(h:R64 (a+b)):¬Z .and .i64 (Z .xor .i64 a (a+b)) (Z .xor .i64 b (a+b))<0:=by grind [qW,nT,lY]
theorem aNw(a b)(ha:R64 a)(hb:R64 b)(h:¬R64 (a+b)):Z .and .i64 (Z .xor .i64 a (wrap64 (a+b))) (Z .xor .i64 b (wrap64 (a+b)))<0:=by rw[qW _ _ (nT _ _) (nT _ _),lY _ _ ha (FK _),lY _ _ hb (FK _)];unfold wrap64;unfold R64 at*;omega
theorem aSC(a b)(ha:R64 a)(hb:R64 b)(h:R64 (a-b)):¬Z .and .i64 (Z .xor .i64 a b) (Z .xor .i64 a (a-b))<0:=by grind [qW,nT,lY]
theorem aPP(a b)(ha:R64 a)(hb:R64 b)(h:¬R64 (a-b)):Z .and .i64 (Z .xor .i64 a b) (Z .xor .i64 a (wrap64 (a-b)))<0:=by rw[qW _ _ (nT _ _) (nT _ _),lY _ _ ha hb,lY _ _ ha (FK _)];unfold wrap64;unfold R64 at*;omega
def absZ(a:Int):Int:=if a<0 then -a else a
variable{a:Int}
theorem jB(h:R64 a):0<=absZ a/\absZ a<=9223372036854775808:=by unfold absZ;unfold R64 at h;split<;>omega
def zA(a b:Int):Int:=(a*b+2147483648)/4294967296
def negZ(a b:Int):Bool:= !decide (a<0)==decide (b<0)
def cK(n:Bool)(m:Int):Int:=if n then -m else m
def halfZ(n:Bool):Int:=if n then 2147483647 else 2147483648
theorem aOT(a b):a*b=cK (negZ a b) (absZ a*absZ b):=by grind [cK,negZ,absZ]
theorem aKw(a b):zA a b=cK (negZ a b) ((absZ a*absZ b+halfZ (negZ a b))/4294967296):=by grind [zA,cK,halfZ,aOT]
theorem GA{b}(ha:R64 a)(hb:R64 b):0<=absZ a*absZ b/\absZ a*absZ b<=85070591730234615865843651857942052864:=by obtain⟨a0,a1⟩:=jB ha;obtain⟨b0,b1⟩:=jB hb;refine⟨Hg a0 b0,?_⟩;have:=rZ a1 b1 b0 (by omega:(0:Int)<=9223372036854775808);omega
theorem aKk(n):0<=halfZ n/\halfZ n<=2147483648:=by cases n<;>decide
theorem yN(x y)(x0:0<=x)(x1:x<4294967296)(y0:0<=y)(y1:y<4294967296):Z .or .u64 (x*4294967296) y=x*4294967296+y:=by obtain⟨x,rfl⟩:=aB x0;obtain⟨y,rfl⟩:=aB y0;have h:=u64_or_nat (x*4294967296) y Yo Yo;rw[nat_join 32 (x*4294967296) y Yo Yo] at h;grind
theorem aHC(x)(x0:0<=x)(x1:x<18446744073709551616):Z .and .u64 x 4294967295=x%4294967296:=by obtain⟨x,rfl⟩:=aB x0;have h:=u64_and_nat x 4294967295 Yo Yo;rw[show x &&& 4294967295=x%4294967296 from Mj x 32] at h;grind
theorem aKy(p h)(_p0:0<=p)(_h0:0<=h)(ht:((p/18446744073709551616+(p%18446744073709551616+h)/18446744073709551616)/4294967296!=0)=false):Z .or .u64 (IntKind.u64.wrap ((p/18446744073709551616+(p%18446744073709551616+h)/18446744073709551616)*4294967296)) ((p+h)%18446744073709551616/4294967296)=(p+h)/4294967296/\(p+h)/4294967296<18446744073709551616:=by
 have e:(p/18446744073709551616+(p%18446744073709551616+h)/18446744073709551616)/4294967296=0:=by simpa using ht
 have e1:p/18446744073709551616+(p%18446744073709551616+h)/18446744073709551616=(p+h)/18446744073709551616:=Yo;rw[e1] at e ⊢;have e2:IntKind.u64.wrap ((p+h)/18446744073709551616*4294967296)=(p+h)/18446744073709551616*4294967296:=Jb;rw[e2,yN _ _ Yo Yo Yo Yo];omega
theorem aKz(p h:Int)(_p0:0<=p)(_h0:0<=h)(ht:((p/18446744073709551616+(p%18446744073709551616+h)/18446744073709551616)/4294967296!=0)=true):18446744073709551616<=(p+h)/4294967296:=by grind
def vK(a b:Int):Int:=(2*(cK (decide (b<0)) a*4294967296)+absZ b)/(2*absZ b)
def xA(n:Bool)(q r d:Int):Int:=if d-r<r\/(r=d-r/\n=false) then q+1 else q
variable{q:Int}
theorem oP{x y}(hy:0<y)(h1:y*q<=x)(h2:x<y*q+y):x/y=q:=by
 have a:q<=x/y:=by rw[xK hy,Bc];exact h1
 have b:x/y<q+1:=by rw[Ii hy,Bc,Dm];omega
 omega
theorem aJP(a b q r)(hb:b≠0)(h:absZ a*4294967296=absZ b*q+r)(h0:0<=r)(h1:r<absZ b):vK a b=cK (negZ a b) (xA (negZ a b) q r (absZ b)):=by
 have hd:0<absZ b:=by unfold absZ;split<;>omega
 have hs:cK (decide (b<0)) a=cK (negZ a b) (absZ a):=by unfold cK negZ absZ;by_cases ha:a<0<;>by_cases hb:b<0<;>simp[ha,hb]
 unfold vK;rw[hs];generalize absZ b=d at*;generalize absZ a=n at*;have e:∀k:Int,2*d*(q+k)=2*(d*q)+2*(d*k):=by intro k;rw[Av,Dm,Dm]
 have e1:=e 1;have e0:=e 0;have f1:2*d* -(q+1)= -(2*d*(q+1)):=Ga _ _;have f0:2*d* -(q+0)= -(2*d*(q+0)):=Ga _ _;simp only[Int.add_zero,Int.mul_zero,Ep] at e0 e1 f0;cases negZ a b
 .show (2*(n*4294967296)+d)/(2*d)=xA false q r d;unfold xA;by_cases c:d-r<r\/(r=d-r/\(false:Bool)=false)
  .rw[ο c];simp at c;exact oP Yo Yo Yo
  rw[if_neg c];simp at c;exact oP Yo Yo Yo
 show (2*(-n*4294967296)+d)/(2*d)= -(xA true q r d);unfold xA;by_cases c:d-r<r\/(r=d-r/\(true:Bool)=false)
 .rw[ο c];simp at c;exact oP Yo Yo Yo
 rw[if_neg c];simp at c;exact oP Yo Yo Yo
def Z5(u u1 v1 v0 q rhat:Int):Prop:=
 0<=q/\q<=4294967297/\0<=rhat/\q*v1+rhat=u/\(u*4294967296+u1)<(v1*4294967296+v0)*(q+1)
def Z7(u u1 v1 v0 q:Int):Prop:=
 0<=q/\q<4294967296/\(v1*4294967296+v0)*q<=u*4294967296+u1/\u*4294967296+u1<(v1*4294967296+v0)*q+(v1*4294967296+v0)
variable{u1 v0 v1:Int}
theorem aGH{u}(hu0:0<=u)(hu:u<v1*4294967296+v0)(hu1:u1<4294967296)(hv1:2147483648<=v1)(h0:0<=v0)(h1:v0<4294967296):Z5 u u1 v1 v0 (u/v1) (u-u/v1*v1):=by
 have hq0:0<=u/v1:=Ei hu0 Yo;have e:=Fz u v1;have m0:0<=u%v1:=Fb _ Yo;have m1:u%v1<v1:=Fe _ Yo;have hq:u/v1<=4294967297:=by apply Int.le_of_lt_add_one;rw[Ii Yo];omega
 have ec:u/v1*v1=v1*(u/v1):=Bc _ _;refine⟨hq0,hq,Yo,Yo,?_⟩;have h3:=Hg h0 hq0;grind
theorem NC:(v1*4294967296+v0)*q=q*v1*4294967296+q*v0:=by grind
variable{rhat:Int}
theorem WM{u}(h:Z5 u u1 v1 v0 q rhat)(hu:u<v1*4294967296+v0)(hu10:0<=u1)(hu1:u1<4294967296)(hv1:2147483648<=v1)(h0:0<=v0)(ht:4294967296<=q\/4294967296*rhat+u1<q*v0):Z5 u u1 v1 v0 (q-1) (rhat+v1)/\1<=q:=by
 obtain⟨q0,q1,r0,e,hlt⟩:=h;have q2:1<=q:=by grind
 have e2:(q-1)*v1=q*v1-v1:=by rw[Ed,Fy]
 refine⟨⟨Yo,Yo,Yo,Yo,?_⟩,q2⟩;have e3:q-1+1=q:=Yo;rw[e3,NC];rcases ht with ht|ht
 .have h5:(v1*4294967296+v0)*4294967296<=(v1*4294967296+v0)*q:=Dl ht Yo;grind
 omega
theorem aDV{u}(h:Z5 u u1 v1 v0 q rhat)(hq:q<4294967296)(ht:q*v0<=4294967296*rhat+u1):Z7 u u1 v1 v0 q:=by
 obtain⟨q0,q1,r0,e,hlt⟩:=h;have e4:(v1*4294967296+v0)*(q+1)=(v1*4294967296+v0)*q+(v1*4294967296+v0):=by rw[Dm,Ep]
 refine⟨q0,hq,?_,Yo⟩;rw[NC];omega
theorem WL{u}(h:Z5 u u1 v1 v0 q rhat)(hu:u<v1*4294967296+v0)(hu10:0<=u1)(hu1:u1<4294967296)(_hv1:2147483648<=v1)(h0:0<=v0)(h1:v0<4294967296)(hq:q<=4294967296)(hr:4294967296<=rhat):Z7 u u1 v1 v0 q:=by
 have hq':q<4294967296:=by obtain⟨q0,q1,r0,e,hlt⟩:=h;grind
 apply aDV h hq';obtain⟨q0,q1,r0,e,hlt⟩:=h;have:=rZ (show q<=4294967296 by omega) (show v0<=4294967295 by omega) h0 (by omega:(0:Int)<=4294967296);omega
end
end Go.Proofs.YthimcecbgpamdaaGreatDoor
