/- Contract of the reference's Read: the walk. -/
import Derived.Test.YtbgljhjimcoiiabDoorStrRf2
import Derived.Deep.LoopGhost
namespace Go.Proofs.YtbgljhjimcoiiabDoor
open Go.RowKit Go.Lib

set_option maxHeartbeats 4000000 in
set_option maxRecDepth 100000 in
theorem refRead_minus (l t wh fr : List UInt8) (pt : Bool) (hl : l.length ≤ 60) (hne : l ≠ []) (hlt : l = 45 :: t) (hp : partsOf l = (wh, fr, pt)) (hs : (pt = false ∧ wh = t ∧ fr = [] ∧ ∀ c ∈ t, c ≠ 46) ∨ (pt = true ∧ t = wh ++ 46 :: fr ∧ ∀ c ∈ wh, c ≠ 46)) (w : World) :
    Calls Tryd.prog 5 #[.string ⟨l.toArray⟩] w fun e w' => e = .returned (.tuple #[.int .i64 (refV l), .int .i64 (refE l)]) ∧ Below w.heap.size w w' := by
  have hS := size_mk l
  have hT := size_mk t
  have hl0 : 0 < l.length := List.length_pos_iff.2 hne
  have hnt : t.length ≤ 60 := by rw [hlt] at hl; simp at hl; omega
  have hix0 : ∀ wx : World, (Instr.index 9 (.string ⟨l.toArray⟩) (.int .i64 0)).run Tryd.prog wx = .ok (.int .u8 45) wx := by
    intro wx
    have h := run_at l 0 hl0 wx
    have e : l[0] = 45 := by simp [hlt]
    rw [e] at h
    exact h
  have hsl1 : ∀ wx : World, (Instr.slice 9 (.string ⟨l.toArray⟩) (some (.int .i64 1)) none none).run Tryd.prog wx = .ok (.string ⟨t.toArray⟩) wx := by
    intro wx
    rw [run_slice_string_from_if _ _ _ _ _ Tryd.underlying9, if_pos (by rw [size_mk]; omega)]
    congr 2
    rw [hlt]
    apply ByteArray.ext
    rw [ByteArray.data_extract, size_mk]
    simp
  have hng : negOf l = true := by
    unfold negOf Lib.hasPrefix
    rw [hlt]
    simp [List.isPrefixOf]
  obtain ⟨n, en⟩ : ∃ n, l.length = n := ⟨_, rfl⟩
  rw [en] at hS hl hl0
  obtain ⟨nt, ent⟩ : ∃ nt, t.length = nt := ⟨_, rfl⟩
  rw [ent] at hT hnt
  have HP := hide hp; have HS := hide hs
  have HAT := hide (run_at t); have HONE := hide (run_one t)
  have HDG := hide digit_any
  obtain ⟨S, eS⟩ : ∃ S : ByteArray, (⟨l.toArray⟩ : ByteArray) = S := ⟨_, rfl⟩
  obtain ⟨T0, eT0⟩ : ∃ T0 : ByteArray, (⟨t.toArray⟩ : ByteArray) = T0 := ⟨_, rfl⟩
  rw [eS, eT0] at hsl1
  have hnn : n = nt + 1 := by rw [← en, ← ent, hlt]; rfl
  rw [eS] at hS hix0 ⊢
  rw [eT0] at hT
  have ENT := hide ent; have ET0 := hide eT0
  have HNG := hide (show negOf l = true from hng)
  have FBAD := hide (show formB l = false → refV l = 0 ∧ refE l = 2 from fun h => by unfold refV refE; rw [if_pos h, if_pos h]; exact ⟨rfl, rfl⟩)
  have b4 : decide ((0 : Int) < (n : Int)) = true := decide_eq_true (by omega)
  have b5 : decide ((60 : Int) < (n : Int)) = false := decide_eq_false (by omega)
  clear en ent eS eT0 hp hs hlt hne
  go_enter Tryd.func5, Tryd.ntmps5
  go_wp2_with fail
  go_loopg [5, 6, 7] nt (fun gk sa ps is wx => ∃ i : Nat, gk = nt - i ∧ i ≤ nt ∧ is = .int .i64 (i : Int) ∧ sa = .string ⟨(keepD t i).toArray⟩ ∧ ps = .int .i64 (ptI wh pt i) ∧ Good t wh fr pt i ∧ w = wx)
  case atStart => exact ⟨0, rfl, Nat.zero_le _, rfl, rfl, by unfold ptI; rw [if_neg (fun h => by omega)], fun j hj => absurd hj (by omega), rfl⟩
  case round =>
    obtain ⟨i, rfl, hi, rfl, rfl, rfl, hgood, rfl⟩ := hrel
    have HGD := hide hgood
    clear hgood
    obtain ⟨A, eA⟩ : ∃ A : ByteArray, (⟨(keepD t i).toArray⟩ : ByteArray) = A := ⟨_, rfl⟩
    have hA : A.size ≤ nt := by
      rw [← eA, size_mk]
      unfold keepD
      refine Nat.le_trans (List.length_filter_le _ _) ?_
      rw [List.length_take]; omega
    rw [eA]
    have EA := hide eA
    clear eA
    obtain ⟨P, eP⟩ : ∃ P : Int, ptI wh pt i = P := ⟨_, rfl⟩
    rw [eP]
    have EP := hide eP
    clear eP
    by_cases hin : i < nt
    · have hil : i < t.length := by rw [unhide ENT]; exact hin
      have hix := fun wx => unhide HAT i hil wx
      have hone := fun wx => unhide HONE i hil wx
      rw [unhide ET0] at hix hone
      obtain ⟨cb, ecb⟩ : ∃ cb, t[i] = cb := ⟨_, rfl⟩
      rw [ecb] at hix hone
      obtain ⟨c, ec⟩ : ∃ c : Nat, cb.toNat = c := ⟨_, rfl⟩
      rw [ec] at hix
      have hc256 : c < 256 := by rw [← ec]; exact UInt8.toNat_lt _
      have hdg := fun wx => unhide HDG c hc256 wx
      have edg : (decide (48 ≤ c) && decide (c ≤ 57)) = isD cb := by unfold isD; rw [ec]
      rw [edg] at hdg
      have hii : (i : Int) < (nt : Int) := by omega
      have HDG2 := hide hdg
      clear hdg edg
      cases hd : isD cb
      · have HDG3 := hide (show ∀ wx : World, Calls Tryd.prog 13 #[.int .u8 (c : Int)] wx fun e w' => e = .returned (.bool false) ∧ w' = wx from fun wx => by rw [← hd]; exact unhide HDG2 wx)
        clear hone
        by_cases hb : t[i] = 46 ∧ pt = true ∧ i = wh.length ∧ wh ≠ [] ∧ fr ≠ []
        · -- the point
          obtain ⟨q1, q2, q3, q4, q5⟩ := hb
          have hc46 : c = 46 := by rw [← ec, ← ecb, q1]; rfl
          have hP : P = -1 := by rw [← unhide EP]; unfold ptI; rw [if_neg (fun h => by omega)]
          have hi0 : (0 : Int) < (i : Int) := by
            have : 0 < wh.length := List.length_pos_iff.2 q4
            omega
          have hi1 : (i : Int) + 1 < (nt : Int) := by
            rcases unhide HS with ⟨h1, -⟩ | ⟨-, h2, -⟩
            · rw [h1] at q2; cases q2
            · have h3 := unhide ENT
              rw [h2, List.length_append, List.length_cons] at h3
              have : 0 < fr.length := List.length_pos_iff.2 q5
              omega
          have NXT := hide (show keepD t (i + 1) = keepD t i ∧ ptI wh pt (i + 1) = (i : Int) ∧ Good t wh fr pt (i + 1) from by
            refine ⟨by rw [keepD_more hil, if_pos q1], ?_, ?_⟩
            · unfold ptI; rw [if_pos ⟨q2, by omega⟩, q3]
            · intro j hj h
              rcases Nat.lt_or_ge j i with h1 | h1
              · exact unhide HGD j h1 h
              · obtain rfl : j = i := by omega
                exact Or.inr ⟨q1, q2, q3, q4, q5⟩)
          subst hc46
          subst hP
          clear q1 q2 q3 q4 q5 ec ecb hd
          go_wp2_with fail
          refine (unhide HDG3 _).mono ?_
          rintro e w1 ⟨rfl, rfl⟩
          go_wp2_with fail
          go_roundg (nt - (i + 1))
          case measure => omega
          case rel => exact ⟨i + 1, rfl, by omega, by go_num, by rw [(unhide NXT).1, unhide EA], by rw [(unhide NXT).2.1], (unhide NXT).2.2, rfl⟩
        · -- not of the form
          have FB := hide (unhide FBAD (bad_byte (unhide HP) (unhide HS) hil (by rw [ecb]; exact hd) hb))
          rcases Classical.em (c = 46 ∧ P < 0 ∧ 0 < i ∧ i + 1 < nt) with hq | hq
          · exfalso
            obtain ⟨q1, q2, q3, q4⟩ := hq
            have hcb : t[i] = 46 := by rw [ecb]; exact UInt8.toNat_inj.1 (by rw [ec, q1]; rfl)
            rcases unhide HS with ⟨-, -, -, h4⟩ | ⟨h1, h2, h3⟩
            · exact h4 _ (List.getElem_mem hil) hcb
            · have hnl := unhide ENT
              rw [h2, List.length_append, List.length_cons] at hnl
              rcases Nat.lt_trichotomy i wh.length with h | h | h
              · have e : t[i] = wh[i] := by simp only [h2]; exact List.getElem_append_left h
                exact h3 _ (List.getElem_mem h) (e.symm.trans hcb)
              · refine hb ⟨hcb, h1, h, ?_, ?_⟩
                · intro e; rw [e] at h; simp at h; omega
                · intro e; rw [e] at hnl; simp at hnl; omega
              · have e := unhide EP
                unfold ptI at e
                rw [if_pos ⟨h1, h⟩] at e
                omega
          · have h46 : c = 46 ∨ ((c : Int) == 46) = false := by
              rcases Classical.em (c = 46) with h | h
              · exact Or.inl h
              · exact Or.inr (beq_eq_false_iff_ne.2 (by omega))
            clear hb hd ecb ec
            rcases h46 with h46 | h46
            · subst h46
              by_cases h2 : P < 0
              · have b6 : decide (P < 0) = true := decide_eq_true h2
                by_cases h3 : 0 < i
                · have b7 : decide ((0 : Int) < (i : Int)) = true := decide_eq_true (by omega)
                  have b8 : decide ((i : Int) + 1 < (nt : Int)) = false := decide_eq_false (by omega)
                  clear hq
                  go_wp2_with fail
                  refine (unhide HDG3 _).mono ?_
                  rintro e w1 ⟨rfl, rfl⟩
                  go_wp2_with fail
                  go_ret2
                  rw [(unhide FB).1, (unhide FB).2]
                  exact ⟨rfl, Below.refl _ _⟩
                · have b7 : decide ((0 : Int) < (i : Int)) = false := decide_eq_false (by omega)
                  clear hq
                  go_wp2_with fail
                  refine (unhide HDG3 _).mono ?_
                  rintro e w1 ⟨rfl, rfl⟩
                  go_wp2_with fail
                  go_ret2
                  rw [(unhide FB).1, (unhide FB).2]
                  exact ⟨rfl, Below.refl _ _⟩
              · have b6 : decide (P < 0) = false := decide_eq_false h2
                clear hq
                go_wp2_with fail
                refine (unhide HDG3 _).mono ?_
                rintro e w1 ⟨rfl, rfl⟩
                go_wp2_with fail
                go_ret2
                rw [(unhide FB).1, (unhide FB).2]
                exact ⟨rfl, Below.refl _ _⟩
            · clear hq
              go_wp2_with fail
              refine (unhide HDG3 _).mono ?_
              rintro e w1 ⟨rfl, rfl⟩
              go_wp2_with fail
              go_ret2
              rw [(unhide FB).1, (unhide FB).2]
              exact ⟨rfl, Below.refl _ _⟩
      · -- a digit
        have HDG3 := hide (show ∀ wx : World, Calls Tryd.prog 13 #[.int .u8 (c : Int)] wx fun e w' => e = .returned (.bool true) ∧ w' = wx from fun wx => by rw [← hd]; exact unhide HDG2 wx)
        have hn46 : t[i] ≠ 46 := by rw [ecb]; rintro rfl; cases hd
        have NXT := hide (show keepD t (i + 1) = keepD t i ++ [cb] ∧ ptI wh pt (i + 1) = ptI wh pt i ∧ Good t wh fr pt (i + 1) from by
          refine ⟨by rw [keepD_more hil, if_neg hn46, ecb], ptI_keep ?_, ?_⟩
          · rintro ⟨h1, h2⟩
            rcases unhide HS with ⟨h3, -⟩ | ⟨-, h4, -⟩
            · rw [h3] at h1; cases h1
            · subst h4
              exact hn46 (by simp [h2])
          · intro j hj h
            rcases Nat.lt_or_ge j i with h1 | h1
            · exact unhide HGD j h1 h
            · obtain rfl : j = i := by omega
              exact Or.inl (by rw [ecb]; exact hd))
        have hB1 : (⟨[cb].toArray⟩ : ByteArray).size = 1 := rfl
        have hcat := fun wx => run_string_add_sum (P := Tryd.prog) (w := wx) A ⟨[cb].toArray⟩ (by omega)
        clear hB1
        obtain ⟨B, eB⟩ : ∃ B : ByteArray, (⟨[cb].toArray⟩ : ByteArray) = B := ⟨_, rfl⟩
        rw [eB] at hone hcat
        obtain ⟨A2, eA2⟩ : ∃ A2 : ByteArray, A ++ B = A2 := ⟨_, rfl⟩
        rw [eA2] at hcat
        have EA2 := hide (show (⟨(keepD t (i + 1)).toArray⟩ : ByteArray) = A2 from by
          rw [(unhide NXT).1, ← eA2, ← eB, ← unhide EA, ByteArray.mk_append_mk])
        clear hd hn46 ec ecb eB eA2
        go_wp2_with fail
        refine (unhide HDG3 _).mono ?_
        rintro e w1 ⟨rfl, rfl⟩
        go_wp2_with fail
        go_roundg (nt - (i + 1))
        case measure => omega
        case rel => exact ⟨i + 1, rfl, by omega, by go_num, by rw [unhide EA2], by rw [(unhide NXT).2.1, unhide EP], (unhide NXT).2.2, rfl⟩
    · obtain rfl : i = nt := by omega
      have hii : ¬ (i : Int) < (i : Int) := by omega
      have hfull : t.take i = t := List.take_of_length_le (by rw [unhide ENT]; exact Nat.le_refl _)
      -- what has been gathered
      obtain ⟨al, hal, hAl, hald, hPt⟩ : ∃ al, al = wh ++ fr ∧ A = ⟨al.toArray⟩ ∧ al.all isD = true ∧ ((P = -1 ∧ fr = [] ∧ pt = false) ∨ (P = (wh.length : Int) ∧ pt = true ∧ wh ≠ [] ∧ fr ≠ [])) := by
        refine ⟨_, rfl, ?_, ?_, ?_⟩
        · rw [← unhide EA]
          unfold keepD
          rw [hfull]
          rcases unhide HS with ⟨-, h2, h3, h4⟩ | ⟨-, h2, h3⟩
          · rw [keep_all h4, h2, h3, List.append_nil]
          · subst h2
            have hfd : ∀ c ∈ fr, c ≠ 46 := by
              intro c hc e
              obtain ⟨j, hj, ej⟩ := List.mem_iff_getElem.1 hc
              have hjt : wh.length + 1 + j < (wh ++ 46 :: fr).length := by simp; omega
              have eg : (wh ++ 46 :: fr)[wh.length + 1 + j]'hjt = fr[j] := by
                rw [List.getElem_append_right (by omega)]
                simp only [List.getElem_cons]
                rw [dif_neg (by omega)]
                congr 1
                omega
              have hge := unhide HGD (wh.length + 1 + j) (by have := unhide ENT; omega) hjt
              rw [eg, ej, e] at hge
              rcases hge with h | ⟨-, -, h, -⟩
              · cases h
              · omega
            rw [List.filter_append, keep_all h3, List.filter_cons]
            rw [if_neg (by simp), keep_all hfd]
        · rcases unhide HS with ⟨h1, h2, h3, h4⟩ | ⟨h1, h2, h3⟩
          · rw [h3, List.append_nil, h2, List.all_eq_true]
            intro c hc
            obtain ⟨j, hj, rfl⟩ := List.mem_iff_getElem.1 hc
            rcases unhide HGD j (by have := unhide ENT; omega) hj with h | ⟨-, h, -⟩
            · exact h
            · rw [h1] at h; cases h
          · subst h2
            rw [List.all_append, Bool.and_eq_true]
            constructor
            · rw [List.all_eq_true]
              intro c hc
              obtain ⟨j, hj, rfl⟩ := List.mem_iff_getElem.1 hc
              have hjt : j < (wh ++ 46 :: fr).length := by simp; omega
              have eg : (wh ++ 46 :: fr)[j]'hjt = wh[j] := List.getElem_append_left hj
              rcases unhide HGD j (by have := unhide ENT; omega) hjt with h | ⟨-, -, h, -⟩
              · rw [← eg]; exact h
              · omega
            · rw [List.all_eq_true]
              intro c hc
              obtain ⟨j, hj, rfl⟩ := List.mem_iff_getElem.1 hc
              have hjt : wh.length + 1 + j < (wh ++ 46 :: fr).length := by simp; omega
              have eg : (wh ++ 46 :: fr)[wh.length + 1 + j]'hjt = fr[j] := by
                rw [List.getElem_append_right (by omega)]
                simp only [List.getElem_cons]
                rw [dif_neg (by omega)]
                congr 1
                omega
              rcases unhide HGD (wh.length + 1 + j) (by have := unhide ENT; omega) hjt with h | ⟨-, -, h, -⟩
              · rw [← eg]; exact h
              · omega
        · rcases unhide HS with ⟨h1, h2, h3, h4⟩ | ⟨h1, h2, h3⟩
          · left
            refine ⟨?_, h3, h1⟩
            rw [← unhide EP]; unfold ptI; rw [if_neg (fun h => by rw [h1] at h; cases h.1)]
          · right
            have hlt2 : wh.length < i := by
              have := unhide ENT
              rw [h2, List.length_append, List.length_cons] at this
              omega
            have hge := unhide HGD wh.length hlt2 (by rw [unhide ENT]; exact hlt2)
            have e46 : t[wh.length]'(by rw [unhide ENT]; exact hlt2) = 46 := by simp [h2]
            rw [e46] at hge
            rcases hge with h | ⟨-, -, -, h5, h6⟩
            · cases h
            · refine ⟨?_, h1, h5, h6⟩
              rw [← unhide EP]; unfold ptI; rw [if_pos ⟨h1, hlt2⟩]
      have hsz : A.size = al.length := by rw [hAl, size_mk]
      have hlst : A.toList = al := by rw [hAl, Lib.toList_data]
      have hlen : al.length = wh.length + fr.length := by rw [hal, List.length_append]
      have hal60 : al.length ≤ 60 := by
        have h1 := unhide HS
        have h2 := unhide ENT
        rcases h1 with ⟨-, e1, e2, -⟩ | ⟨-, e1, -⟩
        · rw [hal, e2, List.append_nil, e1]; omega
        · rw [e1, List.length_append, List.length_cons] at h2; omega
      have HPT := hide hPt
      cases hemp : al.isEmpty
      · have hne2 : al ≠ [] := by intro e; rw [e] at hemp; cases hemp
        have hwne : wh ≠ [] := by
          intro e
          rcases unhide HPT with ⟨-, e2, -⟩ | ⟨-, -, e2, -⟩
          · exact hne2 (by rw [hal, e, e2]; rfl)
          · exact e2 e
        obtain ⟨c1, tw, ewh⟩ := List.exists_cons_of_ne_nil hwne
        have hb0 : A.toList.isEmpty = false := by rw [hlst]; exact hemp
        have hixa : ∀ wx : World, (Instr.index 9 (.string A) (.int .i64 0)).run Tryd.prog wx = .ok (.int .u8 (c1.toNat : Int)) wx := by
          intro wx
          have h := run_at al 0 (List.length_pos_iff.2 hne2) wx
          have e : al[0]'(List.length_pos_iff.2 hne2) = c1 := by simp [hal, ewh]
          rw [e, ← hAl] at h
          exact h
        obtain ⟨cn, ecn⟩ : ∃ cn : Nat, c1.toNat = cn := ⟨_, rfl⟩
        rw [ecn] at hixa
        obtain ⟨lw, elw⟩ : ∃ lw, wh.length = lw := ⟨_, rfl⟩
        obtain ⟨lf, elf⟩ : ∃ lf, fr.length = lf := ⟨_, rfl⟩
        rw [elw, elf] at hlen
        have hsz2 : A.size = lw + lf := by omega
        have hlw : 1 ≤ lw := by rw [← elw, ewh]; simp
        have hwhd : isDig wh = true := by
          unfold isDig
          have : wh.all isD = true := by rw [hal, List.all_append, Bool.and_eq_true] at hald; exact hald.1
          rw [this, ewh]; rfl
        have hfrd : pt = true → isDig fr = true := by
          intro h
          rcases unhide HPT with ⟨-, -, e3⟩ | ⟨-, -, -, e4⟩
          · rw [e3] at h; cases h
          · unfold isDig
            have : fr.all isD = true := by rw [hal, List.all_append, Bool.and_eq_true] at hald; exact hald.2
            rw [this]
            cases fr with
            | nil => exact absurd rfl e4
            | cons _ _ => rfl
        have hwB : wholeB wh = (decide (lw ≤ 1) || !(cn == 48)) := by
          unfold wholeB
          rw [hwhd, Bool.true_and, ← elw, ewh]
          show ((c1 :: tw) == [48] || (some c1 != some 48)) = (decide ((c1 :: tw).length ≤ 1) || !(cn == 48))
          by_cases h48 : c1 = 48
          · subst h48
            have e1 : cn = 48 := ecn.symm
            subst e1
            cases tw with
            | nil => rfl
            | cons _ _ => simp
          · have e1 : cn ≠ 48 := fun e => h48 (UInt8.toNat_inj.1 (by rw [ecn, e]; rfl))
            have e2 : (some c1 != some 48) = true := by simp [h48]
            have e3 : (!(cn == 48)) = true := by simp [e1]
            rw [e2, e3, Bool.or_true, Bool.or_true]
        have hfB : formB l = wholeB wh := by
          unfold formB
          rw [unhide HP]
          show (wholeB wh && (!pt || isDig fr)) = wholeB wh
          cases hpt : pt
          · simp
          · rw [hfrd hpt]; simp
        have hahead : P = -1 ∧ lf = 0 ∨ P = (lw : Int) := by
          rcases unhide HPT with ⟨e1, e2, -⟩ | ⟨e1, -⟩
          · left; exact ⟨e1, by rw [← elf, e2]; rfl⟩
          · right; rw [e1, elw]
        have HW := hide (And.intro hwB hfB)
        have HAL := hide (show A = ⟨al.toArray⟩ ∧ al = wh ++ fr ∧ al.all isD = true ∧ al ≠ [] ∧ al.length ≤ 60 ∧ wh.length = lw ∧ fr.length = lf from ⟨hAl, hal, hald, hne2, hal60, elw, elf⟩)
        clear hAl hal hald hPt hsz hlst hlen hemp hne2 hwne hwhd hfrd hwB hfB elw elf ecn ewh hfull
        by_cases hbad : 1 < lw ∧ cn = 48
        · have FB := hide (unhide FBAD (by rw [(unhide HW).2, (unhide HW).1, decide_eq_false (by omega), hbad.2]; rfl))
          obtain ⟨hb1, hb2⟩ := hbad
          subst hb2
          have b7 : decide ((1 : Int) < (lw : Int)) = true := decide_eq_true (by omega)
          rcases hahead with ⟨hP, hlf⟩ | hP
          · subst hlf
            have b6 : decide ((0 : Int) ≤ P) = false := decide_eq_false (by omega)
            subst hP
            go_wp2_with fail
            go_ret2
            rw [(unhide FB).1, (unhide FB).2]
            exact ⟨rfl, Below.refl _ _⟩
          · have b6 : decide ((0 : Int) ≤ (lw : Int)) = true := decide_eq_true (by omega)
            subst hP
            go_wp2_with fail
            go_ret2
            rw [(unhide FB).1, (unhide FB).2]
            exact ⟨rfl, Below.refl _ _⟩
        · have OKF := hide (show formB l = true from by
            rw [(unhide HW).2, (unhide HW).1]
            rcases Nat.lt_or_ge 1 lw with h | h
            · have : cn ≠ 48 := fun e => hbad ⟨h, e⟩
              have e3 : (!(cn == 48)) = true := by simp [this]
              rw [e3, Bool.or_true]
            · rw [decide_eq_true h]; rfl)
          have HSET := hide (show ∀ wx : World, IntAt wx wx.heap.size.pred (.bool false) (.slice none 0 0) → True from fun _ _ => trivial)
          have HSET2 := hide (show ∀ (z : Nat) (wx : World), IntAt wx z (.bool false) (.slice none 0 0) → Calls Tryd.prog 14 #[.pointer (some ⟨z, 0, none⟩), .string A, .int .i64 10] wx fun e w' => e = .returned (.tuple #[.pointer (some ⟨z, 0, none⟩), .bool true]) ∧ Num w' z (decV al : Int) ∧ Kept z wx w' from by
            intro z wx hz
            obtain ⟨h1, h2, h3, h4, h5, h6, h7⟩ := unhide HAL
            rw [h1]
            exact setString_any z al h5 h3 h4 _ _ wx hz)
          have hX60 : decV al < 10 ^ 60 := by
            obtain ⟨h1, h2, h3, h4, h5, h6, h7⟩ := unhide HAL
            exact Nat.lt_of_lt_of_le (decV_lt h3) (Nat.pow_le_pow_right (by decide) h5)
          have hlf60 : lf ≤ 60 := by omega
          have RV := hide (show refM l = (sgnZ (negOf l) (decV al : Int) * 8589934592 + ((10 ^ lf : Nat) : Int)) / (((10 ^ lf : Nat) : Int) * 2) from by
            obtain ⟨h1, h2, h3, h4, h5, h6, h7⟩ := unhide HAL
            unfold refM
            rw [unhide HP]
            show (sgnZ (negOf l) ((decV (wh ++ fr) : Nat) : Int) * 8589934592 + ((10 ^ fr.length : Nat) : Int)) / (((10 ^ fr.length : Nat) : Int) * 2) = _
            rw [← h2, h7])
          have NEG := hide (show negOf l = true from unhide HNG)
          obtain ⟨X0, eX0⟩ : ∃ X0, decV al = X0 := ⟨_, rfl⟩
          rw [eX0] at HSET2 hX60 RV
          clear eX0 HSET
          have e60n : (10 : Nat) ^ 60 = 1000000000000000000000000000000000000000000000000000000000000 := by decide
          have hX0 : (X0 : Int) < 1000000000000000000000000000000000000000000000000000000000000 := by omega
          clear e60n
          obtain ⟨Dd, eDd⟩ : ∃ Dd : Int, (10 : Int) ^ lf = Dd := ⟨_, rfl⟩
          have hDd : 1 ≤ Dd ∧ Dd ≤ 1000000000000000000000000000000000000000000000000000000000000 := by
            rw [← eDd]
            refine ⟨one_le_pow (by decide) lf, ?_⟩
            have h1 := pow_mono (x := 10) (by decide) hlf60
            have e : (10 : Int) ^ 60 = 1000000000000000000000000000000000000000000000000000000000000 := by decide
            omega
          have hDb : (10 : Int) ^ lf < 4294967296 ^ 50 := by
            have h1 := pow_mono (x := 10) (by decide) hlf60
            have e : (10 : Int) ^ 60 < 4294967296 ^ 50 := by decide
            omega
          have ecast : ((10 ^ lf : Nat) : Int) = Dd := by rw [← eDd]; simp
          rw [ecast] at RV
          obtain ⟨Y, eY⟩ : ∃ Y : Int, Y = (-(X0 : Int)) := ⟨_, rfl⟩
          have RV2 := hide (show refM l = (Y * 8589934592 + Dd) / (Dd * 2) from by rw [unhide RV, unhide NEG, eY]; rfl)
          have hY : -1000000000000000000000000000000000000000000000000000000000000 < Y ∧ Y < 1000000000000000000000000000000000000000000000000000000000000 := by omega
          have DX := hide (show ∀ y : Int, -100000000000000000000000000000000000000000000000000000000000000000000000000000000 < y → y < 100000000000000000000000000000000000000000000000000000000000000000000000000000000 → Bd y from fun y h1 h2 => bd_of (k := 20) (by
            have h3 : (100000000000000000000000000000000000000000000000000000000000000000000000000000000 : Int) < 4294967296 ^ 20 := by decide
            unfold absZ
            split <;> omega) (by decide))
          have DY := hide (unhide DX Y (by omega) (by omega))
          have DY2 := hide (unhide DX (Y * 8589934592) (by omega) (by omega))
          have DY3 := hide (unhide DX (Y * 8589934592 + Dd) (by omega) (by omega))
          have DD := hide (unhide DX Dd (by omega) (by omega))
          have DD2 := hide (unhide DX (Dd * 2) (by omega) (by omega))
          have DR := hide (show Bd (refM l) from by
            rw [unhide RV2]
            refine unhide DX _ ?_ ?_
            · have h1 : 0 < Dd * 2 := by omega
              have h2 : -100000000000000000000000000000000000000000000000000000000000000000000000000000000 < (Y * 8589934592 + Dd) := by omega
              rcases Int.lt_or_le (Y * 8589934592 + Dd) 0 with h3 | h3
              · have h4 : Y * 8589934592 + Dd ≤ (Y * 8589934592 + Dd) / (Dd * 2) := by
                  rw [Int.le_ediv_iff_mul_le h1]
                  have h5 := Int.mul_le_mul_of_nonneg_left (show 1 ≤ Dd * 2 by omega) (show 0 ≤ -(Y * 8589934592 + Dd) by omega)
                  rw [Int.neg_mul, Int.neg_mul, Int.mul_one] at h5
                  omega
                omega
              · have := Int.ediv_nonneg h3 (Int.le_of_lt h1)
                omega
            · have h1 : 0 < Dd * 2 := by omega
              rcases Int.lt_or_le (Y * 8589934592 + Dd) 0 with h3 | h3
              · have := Int.ediv_neg_of_neg_of_pos h3 h1
                omega
              · have := Int.ediv_le_self (Dd * 2) h3
                omega)
          have HDV := hide (div_sizes (Y * 8589934592 + Dd) (Dd * 2) (by omega))
          have EDD := hide (show tenP lf = Dd from eDd); have HDB : Unit → Fits (tenP lf) := fun _ => hDb
          have HDD := hide hDd
          have FV := hide (show refV l = (if bentZ (refM l) then 0 else refM l) ∧ refE l = (if bentZ (refM l) then 3 else 0) from by
            unfold refV refE
            rw [unhide OKF]
            exact ⟨rfl, rfl⟩)
          have EY := hide eY
          have DX0 := hide (unhide DX (X0 : Int) (by omega) (by omega))
          clear hX60 eDd ecast hY hDb hDd hX0 eY
          rcases hahead with ⟨hP, hlf⟩ | hP
          · subst hlf
            subst hP
            rcases (show lw ≤ 1 ∨ (1 < lw ∧ cn ≠ 48) by omega) with hg | ⟨hg1, hg2⟩
            · have b7 : decide ((1 : Int) < (lw : Int)) = false := decide_eq_false (by omega)
              clear hbad
              go_wp2_with fail
              refine (unhide HSET2 _ _ (intAt_new w)).mono ?_
              rintro e w1 ⟨rfl, n1, k1⟩
              have N1 := hide n1; have B1 := hide (below_of_new k1)
              clear n1 k1
              obtain ⟨s0, v0, i0⟩ := num_intAt (unhide N1)
              have I0 := hide i0
              clear i0
              go_wp2_with fail
              refine (neg_any w.heap.size w.heap.size _ _ _ _ (unhide I0) (unhide N1) (unhide DX0)).mono ?_
              rintro e w1' ⟨rfl, n1', k1'⟩
              have NXY := hide (show Num w1' w.heap.size Y from by rw [unhide EY]; exact n1')
              have BXY := hide (below_kept (unhide B1) k1' (Nat.le_refl _))
              clear n1' k1'
              go_wp2_with fail
              refine (newInt_any 10 (by unfold R64; omega) _).mono ?_
              rintro e w2 ⟨b2, rfl, hb2, n2, k2⟩
              have N2 := hide n2; have K2 := hide k2
              clear n2 k2 hb2
              go_wp2_with fail
              refine (newInt_any 0 (by unfold R64; omega) _).mono ?_
              rintro e w3 ⟨b3, rfl, hb3, n3, k3⟩
              have N3 := hide (show Num w3 b3 ((0 : Nat) : Int) from n3); have K3 := hide k3
              clear n3 k3 hb3
              have IZ := hide (((intAt_new w1').below (unhide K2)).below (unhide K3))
              go_wp2_with fail
              refine (exp_any w1'.heap.size b2 b3 10 0 (by decide) (HDB ()) (by omega) _ _ _ (unhide IZ) ((unhide N2).below (unhide K3)) (unhide N3) (bd64 (by unfold R64; omega))).mono ?_
              rintro e w4 ⟨rfl, n4, k4⟩
              have N4 := hide (show Num w4 w1'.heap.size Dd from by rw [← unhide EDD]; exact n4)
              have NX4 := hide (show Num w4 w.heap.size Y from by
                have h1 := (((unhide NXY).below (below_new w1' (.cells #[.bool false, .slice none 0 0] 41))).below (unhide K2)).below (unhide K3)
                exact h1.other k4 (by have := (unhide NXY).lt; omega) (unhide IZ))
              have B4 := hide (show Below w.heap.size w w4 from by
                have h1 := below_two (unhide BXY) (below_new w1' (.cells #[.bool false, .slice none 0 0] 41)) (unhide BXY).size
                have h2 := below_two h1 (unhide K2) h1.size
                have h3 := below_two h2 (unhide K3) h2.size
                exact below_kept h3 k4 (unhide BXY).size)
              have NEZ := hide (show w1'.heap.size ≠ w.heap.size from by have := (unhide NXY).lt; omega)
              clear n4 k4
              obtain ⟨s4, v4, i4⟩ := num_intAt (unhide NX4)
              have I4 := hide i4
              clear i4
              go_wp2_with fail
              refine (lsh_any w.heap.size w.heap.size 33 Y (by decide) _ _ _ (unhide I4) (unhide NX4) (unhide DY)).mono ?_
              rintro e w5 ⟨rfl, n5, k5⟩
              have N5 := hide (show Num w5 w.heap.size (Y * 8589934592) from n5)
              have ND5 := hide ((unhide N4).other k5 (unhide NEZ) (unhide I4))
              have B5 := hide (below_kept (unhide B4) k5 (Nat.le_refl _))
              clear n5 k5
              obtain ⟨s5, v5, i5⟩ := num_intAt (unhide N5)
              have I5 := hide i5
              clear i5
              go_wp2_with fail
              refine (intAdd_any w.heap.size w.heap.size w1'.heap.size _ Dd _ _ _ (unhide I5) (unhide N5) (unhide ND5) (unhide DY2) (unhide DD)).mono ?_
              rintro e w6 ⟨rfl, n6, k6⟩
              have N6 := hide n6
              have ND6 := hide ((unhide ND5).other k6 (unhide NEZ) (unhide I5))
              have B6 := hide (below_kept (unhide B5) k6 (Nat.le_refl _))
              clear n6 k6
              go_wp2_with fail
              refine (lsh_any w6.heap.size w1'.heap.size 1 Dd (by decide) _ _ _ (intAt_new w6) ((unhide ND6).below (below_new w6 _)) (unhide DD)).mono ?_
              rintro e w7 ⟨rfl, n7, k7⟩
              have N7 := hide (show Num w7 w6.heap.size (Dd * 2) from n7)
              have B7' := hide (below_of_new k7)
              have B7 := hide (below_two (unhide B6) (unhide B7') (unhide B6).size)
              clear n7 k7
              go_wp2_with fail
              refine (down_any w.heap.size w6.heap.size _ (Dd * 2) _ ((unhide N6).below (unhide B7')) (unhide N7) (unhide DY3) (unhide DD2) (by have := unhide HDD; omega) (unhide HDV)).mono ?_
              rintro e w8 ⟨b8, rfl, n8, k8⟩
              rw [← unhide RV2] at n8
              have N8 := hide n8
              have B8 := hide (below_two (unhide B7) k8 (unhide B7).size)
              clear n8 k8
              go_wp2_with fail
              refine (isInt64_any b8 _ _ (unhide N8) (unhide DR)).mono ?_
              rintro e w9 ⟨rfl, rfl⟩
              cases hbz : bentZ (refM l)
              · have F2 := hide (show refV l = refM l ∧ refE l = 0 from by have h := unhide FV; rw [hbz] at h; exact h)
                have R8 := hide (show R64 (refM l) from by
                  unfold bentZ at hbz
                  rw [Bool.or_eq_false_iff, decide_eq_false_iff_not, decide_eq_false_iff_not] at hbz
                  unfold R64
                  omega)
                obtain ⟨r1, r2⟩ := unhide R8
                obtain ⟨z8, ez8⟩ : ∃ z8, refM l = z8 := ⟨_, rfl⟩
                rw [ez8] at F2 R8 N8 r1 r2
                clear hbz ez8
                go_wp2_with fail
                refine (int64_any b8 _ _ (unhide N8) (unhide R8)).mono ?_
                rintro e w10 ⟨rfl, rfl⟩
                go_wp2_with fail
                go_ret2
                rw [(unhide F2).1, (unhide F2).2]
                exact ⟨rfl, unhide B8⟩
              · have F2 := hide (show refV l = 0 ∧ refE l = 3 from by have h := unhide FV; rw [hbz] at h; exact h)
                clear hbz
                go_wp2_with fail
                go_ret2
                rw [(unhide F2).1, (unhide F2).2]
                exact ⟨rfl, unhide B8⟩
            · have b7 : decide ((1 : Int) < (lw : Int)) = true := decide_eq_true (by omega)
              have b8 : ((cn : Int) == 48) = false := beq_eq_false_iff_ne.2 (by omega)
              clear hbad
              go_wp2_with fail
              refine (unhide HSET2 _ _ (intAt_new w)).mono ?_
              rintro e w1 ⟨rfl, n1, k1⟩
              have N1 := hide n1; have B1 := hide (below_of_new k1)
              clear n1 k1
              obtain ⟨s0, v0, i0⟩ := num_intAt (unhide N1)
              have I0 := hide i0
              clear i0
              go_wp2_with fail
              refine (neg_any w.heap.size w.heap.size _ _ _ _ (unhide I0) (unhide N1) (unhide DX0)).mono ?_
              rintro e w1' ⟨rfl, n1', k1'⟩
              have NXY := hide (show Num w1' w.heap.size Y from by rw [unhide EY]; exact n1')
              have BXY := hide (below_kept (unhide B1) k1' (Nat.le_refl _))
              clear n1' k1'
              go_wp2_with fail
              refine (newInt_any 10 (by unfold R64; omega) _).mono ?_
              rintro e w2 ⟨b2, rfl, hb2, n2, k2⟩
              have N2 := hide n2; have K2 := hide k2
              clear n2 k2 hb2
              go_wp2_with fail
              refine (newInt_any 0 (by unfold R64; omega) _).mono ?_
              rintro e w3 ⟨b3, rfl, hb3, n3, k3⟩
              have N3 := hide (show Num w3 b3 ((0 : Nat) : Int) from n3); have K3 := hide k3
              clear n3 k3 hb3
              have IZ := hide (((intAt_new w1').below (unhide K2)).below (unhide K3))
              go_wp2_with fail
              refine (exp_any w1'.heap.size b2 b3 10 0 (by decide) (HDB ()) (by omega) _ _ _ (unhide IZ) ((unhide N2).below (unhide K3)) (unhide N3) (bd64 (by unfold R64; omega))).mono ?_
              rintro e w4 ⟨rfl, n4, k4⟩
              have N4 := hide (show Num w4 w1'.heap.size Dd from by rw [← unhide EDD]; exact n4)
              have NX4 := hide (show Num w4 w.heap.size Y from by
                have h1 := (((unhide NXY).below (below_new w1' (.cells #[.bool false, .slice none 0 0] 41))).below (unhide K2)).below (unhide K3)
                exact h1.other k4 (by have := (unhide NXY).lt; omega) (unhide IZ))
              have B4 := hide (show Below w.heap.size w w4 from by
                have h1 := below_two (unhide BXY) (below_new w1' (.cells #[.bool false, .slice none 0 0] 41)) (unhide BXY).size
                have h2 := below_two h1 (unhide K2) h1.size
                have h3 := below_two h2 (unhide K3) h2.size
                exact below_kept h3 k4 (unhide BXY).size)
              have NEZ := hide (show w1'.heap.size ≠ w.heap.size from by have := (unhide NXY).lt; omega)
              clear n4 k4
              obtain ⟨s4, v4, i4⟩ := num_intAt (unhide NX4)
              have I4 := hide i4
              clear i4
              go_wp2_with fail
              refine (lsh_any w.heap.size w.heap.size 33 Y (by decide) _ _ _ (unhide I4) (unhide NX4) (unhide DY)).mono ?_
              rintro e w5 ⟨rfl, n5, k5⟩
              have N5 := hide (show Num w5 w.heap.size (Y * 8589934592) from n5)
              have ND5 := hide ((unhide N4).other k5 (unhide NEZ) (unhide I4))
              have B5 := hide (below_kept (unhide B4) k5 (Nat.le_refl _))
              clear n5 k5
              obtain ⟨s5, v5, i5⟩ := num_intAt (unhide N5)
              have I5 := hide i5
              clear i5
              go_wp2_with fail
              refine (intAdd_any w.heap.size w.heap.size w1'.heap.size _ Dd _ _ _ (unhide I5) (unhide N5) (unhide ND5) (unhide DY2) (unhide DD)).mono ?_
              rintro e w6 ⟨rfl, n6, k6⟩
              have N6 := hide n6
              have ND6 := hide ((unhide ND5).other k6 (unhide NEZ) (unhide I5))
              have B6 := hide (below_kept (unhide B5) k6 (Nat.le_refl _))
              clear n6 k6
              go_wp2_with fail
              refine (lsh_any w6.heap.size w1'.heap.size 1 Dd (by decide) _ _ _ (intAt_new w6) ((unhide ND6).below (below_new w6 _)) (unhide DD)).mono ?_
              rintro e w7 ⟨rfl, n7, k7⟩
              have N7 := hide (show Num w7 w6.heap.size (Dd * 2) from n7)
              have B7' := hide (below_of_new k7)
              have B7 := hide (below_two (unhide B6) (unhide B7') (unhide B6).size)
              clear n7 k7
              go_wp2_with fail
              refine (down_any w.heap.size w6.heap.size _ (Dd * 2) _ ((unhide N6).below (unhide B7')) (unhide N7) (unhide DY3) (unhide DD2) (by have := unhide HDD; omega) (unhide HDV)).mono ?_
              rintro e w8 ⟨b8, rfl, n8, k8⟩
              rw [← unhide RV2] at n8
              have N8 := hide n8
              have B8 := hide (below_two (unhide B7) k8 (unhide B7).size)
              clear n8 k8
              go_wp2_with fail
              refine (isInt64_any b8 _ _ (unhide N8) (unhide DR)).mono ?_
              rintro e w9 ⟨rfl, rfl⟩
              cases hbz : bentZ (refM l)
              · have F2 := hide (show refV l = refM l ∧ refE l = 0 from by have h := unhide FV; rw [hbz] at h; exact h)
                have R8 := hide (show R64 (refM l) from by
                  unfold bentZ at hbz
                  rw [Bool.or_eq_false_iff, decide_eq_false_iff_not, decide_eq_false_iff_not] at hbz
                  unfold R64
                  omega)
                obtain ⟨r1, r2⟩ := unhide R8
                obtain ⟨z8, ez8⟩ : ∃ z8, refM l = z8 := ⟨_, rfl⟩
                rw [ez8] at F2 R8 N8 r1 r2
                clear hbz ez8
                go_wp2_with fail
                refine (int64_any b8 _ _ (unhide N8) (unhide R8)).mono ?_
                rintro e w10 ⟨rfl, rfl⟩
                go_wp2_with fail
                go_ret2
                rw [(unhide F2).1, (unhide F2).2]
                exact ⟨rfl, unhide B8⟩
              · have F2 := hide (show refV l = 0 ∧ refE l = 3 from by have h := unhide FV; rw [hbz] at h; exact h)
                clear hbz
                go_wp2_with fail
                go_ret2
                rw [(unhide F2).1, (unhide F2).2]
                exact ⟨rfl, unhide B8⟩
          · subst hP
            have b6 : decide ((0 : Int) ≤ (lw : Int)) = true := decide_eq_true (by omega)
            rcases (show lw ≤ 1 ∨ (1 < lw ∧ cn ≠ 48) by omega) with hg | ⟨hg1, hg2⟩
            · have b7 : decide ((1 : Int) < (lw : Int)) = false := decide_eq_false (by omega)
              clear hbad
              go_wp2_with fail
              refine (unhide HSET2 _ _ (intAt_new w)).mono ?_
              rintro e w1 ⟨rfl, n1, k1⟩
              have N1 := hide n1; have B1 := hide (below_of_new k1)
              clear n1 k1
              obtain ⟨s0, v0, i0⟩ := num_intAt (unhide N1)
              have I0 := hide i0
              clear i0
              go_wp2_with fail
              refine (neg_any w.heap.size w.heap.size _ _ _ _ (unhide I0) (unhide N1) (unhide DX0)).mono ?_
              rintro e w1' ⟨rfl, n1', k1'⟩
              have NXY := hide (show Num w1' w.heap.size Y from by rw [unhide EY]; exact n1')
              have BXY := hide (below_kept (unhide B1) k1' (Nat.le_refl _))
              clear n1' k1'
              go_wp2_with fail
              refine (newInt_any 10 (by unfold R64; omega) _).mono ?_
              rintro e w2 ⟨b2, rfl, hb2, n2, k2⟩
              have N2 := hide n2; have K2 := hide k2
              clear n2 k2 hb2
              go_wp2_with fail
              rw [show (lw : Int) + (lf : Int) - (lw : Int) = (lf : Int) by omega]
              refine (newInt_any (lf : Int) (by unfold R64; omega) _).mono ?_
              rintro e w3 ⟨b3, rfl, hb3, n3, k3⟩
              have N3 := hide (show Num w3 b3 ((lf : Nat) : Int) from n3); have K3 := hide k3
              clear n3 k3 hb3
              have IZ := hide (((intAt_new w1').below (unhide K2)).below (unhide K3))
              go_wp2_with fail
              refine (exp_any w1'.heap.size b2 b3 10 lf (by decide) (HDB ()) (by omega) _ _ _ (unhide IZ) ((unhide N2).below (unhide K3)) (unhide N3) (bd64 (by unfold R64; omega))).mono ?_
              rintro e w4 ⟨rfl, n4, k4⟩
              have N4 := hide (show Num w4 w1'.heap.size Dd from by rw [← unhide EDD]; exact n4)
              have NX4 := hide (show Num w4 w.heap.size Y from by
                have h1 := (((unhide NXY).below (below_new w1' (.cells #[.bool false, .slice none 0 0] 41))).below (unhide K2)).below (unhide K3)
                exact h1.other k4 (by have := (unhide NXY).lt; omega) (unhide IZ))
              have B4 := hide (show Below w.heap.size w w4 from by
                have h1 := below_two (unhide BXY) (below_new w1' (.cells #[.bool false, .slice none 0 0] 41)) (unhide BXY).size
                have h2 := below_two h1 (unhide K2) h1.size
                have h3 := below_two h2 (unhide K3) h2.size
                exact below_kept h3 k4 (unhide BXY).size)
              have NEZ := hide (show w1'.heap.size ≠ w.heap.size from by have := (unhide NXY).lt; omega)
              clear n4 k4
              obtain ⟨s4, v4, i4⟩ := num_intAt (unhide NX4)
              have I4 := hide i4
              clear i4
              go_wp2_with fail
              refine (lsh_any w.heap.size w.heap.size 33 Y (by decide) _ _ _ (unhide I4) (unhide NX4) (unhide DY)).mono ?_
              rintro e w5 ⟨rfl, n5, k5⟩
              have N5 := hide (show Num w5 w.heap.size (Y * 8589934592) from n5)
              have ND5 := hide ((unhide N4).other k5 (unhide NEZ) (unhide I4))
              have B5 := hide (below_kept (unhide B4) k5 (Nat.le_refl _))
              clear n5 k5
              obtain ⟨s5, v5, i5⟩ := num_intAt (unhide N5)
              have I5 := hide i5
              clear i5
              go_wp2_with fail
              refine (intAdd_any w.heap.size w.heap.size w1'.heap.size _ Dd _ _ _ (unhide I5) (unhide N5) (unhide ND5) (unhide DY2) (unhide DD)).mono ?_
              rintro e w6 ⟨rfl, n6, k6⟩
              have N6 := hide n6
              have ND6 := hide ((unhide ND5).other k6 (unhide NEZ) (unhide I5))
              have B6 := hide (below_kept (unhide B5) k6 (Nat.le_refl _))
              clear n6 k6
              go_wp2_with fail
              refine (lsh_any w6.heap.size w1'.heap.size 1 Dd (by decide) _ _ _ (intAt_new w6) ((unhide ND6).below (below_new w6 _)) (unhide DD)).mono ?_
              rintro e w7 ⟨rfl, n7, k7⟩
              have N7 := hide (show Num w7 w6.heap.size (Dd * 2) from n7)
              have B7' := hide (below_of_new k7)
              have B7 := hide (below_two (unhide B6) (unhide B7') (unhide B6).size)
              clear n7 k7
              go_wp2_with fail
              refine (down_any w.heap.size w6.heap.size _ (Dd * 2) _ ((unhide N6).below (unhide B7')) (unhide N7) (unhide DY3) (unhide DD2) (by have := unhide HDD; omega) (unhide HDV)).mono ?_
              rintro e w8 ⟨b8, rfl, n8, k8⟩
              rw [← unhide RV2] at n8
              have N8 := hide n8
              have B8 := hide (below_two (unhide B7) k8 (unhide B7).size)
              clear n8 k8
              go_wp2_with fail
              refine (isInt64_any b8 _ _ (unhide N8) (unhide DR)).mono ?_
              rintro e w9 ⟨rfl, rfl⟩
              cases hbz : bentZ (refM l)
              · have F2 := hide (show refV l = refM l ∧ refE l = 0 from by have h := unhide FV; rw [hbz] at h; exact h)
                have R8 := hide (show R64 (refM l) from by
                  unfold bentZ at hbz
                  rw [Bool.or_eq_false_iff, decide_eq_false_iff_not, decide_eq_false_iff_not] at hbz
                  unfold R64
                  omega)
                obtain ⟨r1, r2⟩ := unhide R8
                obtain ⟨z8, ez8⟩ : ∃ z8, refM l = z8 := ⟨_, rfl⟩
                rw [ez8] at F2 R8 N8 r1 r2
                clear hbz ez8
                go_wp2_with fail
                refine (int64_any b8 _ _ (unhide N8) (unhide R8)).mono ?_
                rintro e w10 ⟨rfl, rfl⟩
                go_wp2_with fail
                go_ret2
                rw [(unhide F2).1, (unhide F2).2]
                exact ⟨rfl, unhide B8⟩
              · have F2 := hide (show refV l = 0 ∧ refE l = 3 from by have h := unhide FV; rw [hbz] at h; exact h)
                clear hbz
                go_wp2_with fail
                go_ret2
                rw [(unhide F2).1, (unhide F2).2]
                exact ⟨rfl, unhide B8⟩
            · have b7 : decide ((1 : Int) < (lw : Int)) = true := decide_eq_true (by omega)
              have b8 : ((cn : Int) == 48) = false := beq_eq_false_iff_ne.2 (by omega)
              clear hbad
              go_wp2_with fail
              refine (unhide HSET2 _ _ (intAt_new w)).mono ?_
              rintro e w1 ⟨rfl, n1, k1⟩
              have N1 := hide n1; have B1 := hide (below_of_new k1)
              clear n1 k1
              obtain ⟨s0, v0, i0⟩ := num_intAt (unhide N1)
              have I0 := hide i0
              clear i0
              go_wp2_with fail
              refine (neg_any w.heap.size w.heap.size _ _ _ _ (unhide I0) (unhide N1) (unhide DX0)).mono ?_
              rintro e w1' ⟨rfl, n1', k1'⟩
              have NXY := hide (show Num w1' w.heap.size Y from by rw [unhide EY]; exact n1')
              have BXY := hide (below_kept (unhide B1) k1' (Nat.le_refl _))
              clear n1' k1'
              go_wp2_with fail
              refine (newInt_any 10 (by unfold R64; omega) _).mono ?_
              rintro e w2 ⟨b2, rfl, hb2, n2, k2⟩
              have N2 := hide n2; have K2 := hide k2
              clear n2 k2 hb2
              go_wp2_with fail
              rw [show (lw : Int) + (lf : Int) - (lw : Int) = (lf : Int) by omega]
              refine (newInt_any (lf : Int) (by unfold R64; omega) _).mono ?_
              rintro e w3 ⟨b3, rfl, hb3, n3, k3⟩
              have N3 := hide (show Num w3 b3 ((lf : Nat) : Int) from n3); have K3 := hide k3
              clear n3 k3 hb3
              have IZ := hide (((intAt_new w1').below (unhide K2)).below (unhide K3))
              go_wp2_with fail
              refine (exp_any w1'.heap.size b2 b3 10 lf (by decide) (HDB ()) (by omega) _ _ _ (unhide IZ) ((unhide N2).below (unhide K3)) (unhide N3) (bd64 (by unfold R64; omega))).mono ?_
              rintro e w4 ⟨rfl, n4, k4⟩
              have N4 := hide (show Num w4 w1'.heap.size Dd from by rw [← unhide EDD]; exact n4)
              have NX4 := hide (show Num w4 w.heap.size Y from by
                have h1 := (((unhide NXY).below (below_new w1' (.cells #[.bool false, .slice none 0 0] 41))).below (unhide K2)).below (unhide K3)
                exact h1.other k4 (by have := (unhide NXY).lt; omega) (unhide IZ))
              have B4 := hide (show Below w.heap.size w w4 from by
                have h1 := below_two (unhide BXY) (below_new w1' (.cells #[.bool false, .slice none 0 0] 41)) (unhide BXY).size
                have h2 := below_two h1 (unhide K2) h1.size
                have h3 := below_two h2 (unhide K3) h2.size
                exact below_kept h3 k4 (unhide BXY).size)
              have NEZ := hide (show w1'.heap.size ≠ w.heap.size from by have := (unhide NXY).lt; omega)
              clear n4 k4
              obtain ⟨s4, v4, i4⟩ := num_intAt (unhide NX4)
              have I4 := hide i4
              clear i4
              go_wp2_with fail
              refine (lsh_any w.heap.size w.heap.size 33 Y (by decide) _ _ _ (unhide I4) (unhide NX4) (unhide DY)).mono ?_
              rintro e w5 ⟨rfl, n5, k5⟩
              have N5 := hide (show Num w5 w.heap.size (Y * 8589934592) from n5)
              have ND5 := hide ((unhide N4).other k5 (unhide NEZ) (unhide I4))
              have B5 := hide (below_kept (unhide B4) k5 (Nat.le_refl _))
              clear n5 k5
              obtain ⟨s5, v5, i5⟩ := num_intAt (unhide N5)
              have I5 := hide i5
              clear i5
              go_wp2_with fail
              refine (intAdd_any w.heap.size w.heap.size w1'.heap.size _ Dd _ _ _ (unhide I5) (unhide N5) (unhide ND5) (unhide DY2) (unhide DD)).mono ?_
              rintro e w6 ⟨rfl, n6, k6⟩
              have N6 := hide n6
              have ND6 := hide ((unhide ND5).other k6 (unhide NEZ) (unhide I5))
              have B6 := hide (below_kept (unhide B5) k6 (Nat.le_refl _))
              clear n6 k6
              go_wp2_with fail
              refine (lsh_any w6.heap.size w1'.heap.size 1 Dd (by decide) _ _ _ (intAt_new w6) ((unhide ND6).below (below_new w6 _)) (unhide DD)).mono ?_
              rintro e w7 ⟨rfl, n7, k7⟩
              have N7 := hide (show Num w7 w6.heap.size (Dd * 2) from n7)
              have B7' := hide (below_of_new k7)
              have B7 := hide (below_two (unhide B6) (unhide B7') (unhide B6).size)
              clear n7 k7
              go_wp2_with fail
              refine (down_any w.heap.size w6.heap.size _ (Dd * 2) _ ((unhide N6).below (unhide B7')) (unhide N7) (unhide DY3) (unhide DD2) (by have := unhide HDD; omega) (unhide HDV)).mono ?_
              rintro e w8 ⟨b8, rfl, n8, k8⟩
              rw [← unhide RV2] at n8
              have N8 := hide n8
              have B8 := hide (below_two (unhide B7) k8 (unhide B7).size)
              clear n8 k8
              go_wp2_with fail
              refine (isInt64_any b8 _ _ (unhide N8) (unhide DR)).mono ?_
              rintro e w9 ⟨rfl, rfl⟩
              cases hbz : bentZ (refM l)
              · have F2 := hide (show refV l = refM l ∧ refE l = 0 from by have h := unhide FV; rw [hbz] at h; exact h)
                have R8 := hide (show R64 (refM l) from by
                  unfold bentZ at hbz
                  rw [Bool.or_eq_false_iff, decide_eq_false_iff_not, decide_eq_false_iff_not] at hbz
                  unfold R64
                  omega)
                obtain ⟨r1, r2⟩ := unhide R8
                obtain ⟨z8, ez8⟩ : ∃ z8, refM l = z8 := ⟨_, rfl⟩
                rw [ez8] at F2 R8 N8 r1 r2
                clear hbz ez8
                go_wp2_with fail
                refine (int64_any b8 _ _ (unhide N8) (unhide R8)).mono ?_
                rintro e w10 ⟨rfl, rfl⟩
                go_wp2_with fail
                go_ret2
                rw [(unhide F2).1, (unhide F2).2]
                exact ⟨rfl, unhide B8⟩
              · have F2 := hide (show refV l = 0 ∧ refE l = 3 from by have h := unhide FV; rw [hbz] at h; exact h)
                clear hbz
                go_wp2_with fail
                go_ret2
                rw [(unhide F2).1, (unhide F2).2]
                exact ⟨rfl, unhide B8⟩
      · have hb0 : A.toList.isEmpty = true := by rw [hlst]; exact hemp
        have FB := hide (unhide FBAD (not_form (unhide HP) (Or.inl (by
          have : al = [] := List.isEmpty_iff.1 hemp
          rw [hal] at this
          rw [(List.append_eq_nil_iff.1 this).1]; rfl))))
        clear hAl hal hald hPt hlst hlen hemp hfull
        go_wp2_with fail
        go_ret2
        rw [(unhide FB).1, (unhide FB).2]
        exact ⟨rfl, Below.refl _ _⟩

end Go.Proofs.YtbgljhjimcoiiabDoor
