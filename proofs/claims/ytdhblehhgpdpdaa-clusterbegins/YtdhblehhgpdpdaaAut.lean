import Derived.Test.YtdhblehhgpdpdaaCod
import Derived.Test.YtdhblehhgpdpdaaNear51
import Derived.Test.YtdhblehhgpdpdaaNear15
namespace Go.Proofs.Ytdhblehhgpdpdaa
open Go.RowKit
structure It where
 p : World → Prop
 foot : Nat → Prop
 ok : ∀ {w w' : World}, p w → (∀ k, k < w.heap.size → foot k → w'.heap[k]? = w.heap[k]?) → p w'
 lt : ∀ {w : World} {k : Nat}, p w → foot k → k < w.heap.size
theorem rw_same {t : TypeId} {B s n : Nat} {w w' : World} {v : Value} {xs : List Value} (h : w.ownsRow B t s v n xs) (e : ∀ k, v.ownBlock = some k → w'.heap[k]? = w.heap[k]?) : w'.ownsRow B t s v n xs := by
 refine ⟨h.1, ?_⟩
 rcases h.2 with hn | ⟨g, cap, cur, rfl, hb, hgg, rest⟩
 ·exact .inl hn
 ·exact .inr ⟨g, cap, cur, rfl, hb, (e g rfl).trans hgg, rest⟩
def vhI (t : TypeId) (b N cap : Nat) (g : Nat → Value) : It := ⟨fun w => Vh t w b N cap g, fun k => k = b, fun h e => Vh.same h (e _ h.lt rfl), fun h e => e ▸ h.lt⟩
def ownI (B : Nat) (t : TypeId) (s : Nat) (v : Value) (n : Nat) (xs : List Value) : It := ⟨fun w => w.ownsRow B t s v n xs, fun k => v.ownBlock = some k, fun h e => rw_same h (fun k hk => e k (h.lt k hk).2 hk), fun h e => (h.lt _ e).2⟩
structure Cx (w0 w : World) (l : List It) : Prop where
 bel : Below w0.heap.size w0 w
 it : ∀ x, x ∈ l → x.p w
 up : ∀ x, x ∈ l → ∀ k, x.foot k → w0.heap.size ≤ k
 dis : l.Pairwise fun x y => ∀ k, x.foot k → ¬ y.foot k
section
variable {w0 w w' : World} {l a b : List It} {x y : It}
theorem Cx.start (w0 : World) : Cx w0 w0 [] := ⟨Below.refl _ _, fun _ h => (by cases h), fun _ h => (by cases h), List.Pairwise.nil⟩
theorem Cx.size (H : Cx w0 w l) : w0.heap.size ≤ w.heap.size := H.bel.size
theorem Cx.call (H : Cx w0 w l) (k : Below w.heap.size w w') : Cx w0 w' l := ⟨H.bel.trans (k.mono H.size), fun x hx => x.ok (H.it x hx) (fun j hj _ => k.block j hj), H.up, H.dis⟩
theorem Cx.drew (H : Cx w0 w l) : Cx w0 w.drew l := H.call ⟨rfl, rfl, rfl, Nat.le_refl _, fun _ _ => rfl⟩
theorem Cx.add (H : Cx w0 w l) (k : Below w.heap.size w w') (x : It) (hx : x.p w') (hf : ∀ j, x.foot j → w.heap.size ≤ j) : Cx w0 w' (x :: l) := by
 have H' := H.call k
 have hs := H.size
 refine ⟨H'.bel, fun y hy => ?_, fun y hy j hj => ?_, List.Pairwise.cons (fun y hy j h1 h2 => ?_) H.dis⟩
 ·rcases List.mem_cons.1 hy with rfl | hy
  ·exact hx
  ·exact H'.it y hy
 ·rcases List.mem_cons.1 hy with rfl | hy
  ·have := hf j hj; omega
  ·exact H.up y hy j hj
 ·have h3 := hf j h1
  have h4 := y.lt (H.it y hy) h2
  omega
theorem Cx.put (H : Cx w0 w (a ++ x :: b)) (os : w'.os = w.os) (tape : w'.tape = w.tape) (output : w'.output = w.output) (size : w.heap.size ≤ w'.heap.size) (hk : ∀ k, k < w.heap.size → ¬ x.foot k → w'.heap[k]? = w.heap[k]?) (y : It) (hy : y.p w') (hf : ∀ j, y.foot j → x.foot j ∨ w.heap.size ≤ j) : Cx w0 w' (a ++ y :: b) := by
 have hs := H.size
 obtain ⟨d1, d2, d3⟩ := List.pairwise_append.1 H.dis
 obtain ⟨d4, d5⟩ := List.pairwise_cons.1 d2
 have hx : x ∈ a ++ x :: b := by simp
 have inA : ∀ z, z ∈ a → z ∈ a ++ x :: b := fun z hz => List.mem_append_left _ hz
 have inB : ∀ z, z ∈ b → z ∈ a ++ x :: b := fun z hz => List.mem_append_right _ (List.mem_cons_of_mem _ hz)
 have far : ∀ z, z ∈ a ++ x :: b → ∀ j, z.foot j → ¬ w.heap.size ≤ j := fun z hz j h1 h2 => by have := z.lt (H.it z hz) h1; omega
 refine ⟨⟨os.trans H.bel.os, tape.trans H.bel.tape, output.trans H.bel.output, Nat.le_trans H.bel.size size, fun k hkk => (hk k (by omega) (fun e => by have := H.up x hx k e; omega)).trans (H.bel.block k hkk)⟩, fun z hz => ?_, fun z hz j hj => ?_, List.pairwise_append.2 ⟨d1, List.pairwise_cons.2 ⟨fun z hz j h1 h2 => ?_, d5⟩, fun z hz u hu j h1 h2 => ?_⟩⟩
 ·rcases List.mem_append.1 hz with hz | hz
  ·exact z.ok (H.it z (inA z hz)) (fun k h1 h2 => hk k h1 (fun h3 => d3 z hz x (List.mem_cons_self) k h2 h3))
  ·rcases List.mem_cons.1 hz with rfl | hz
   ·exact hy
   ·exact z.ok (H.it z (inB z hz)) (fun k h1 h2 => hk k h1 (fun h3 => d4 z hz k h3 h2))
 ·rcases List.mem_append.1 hz with hz | hz
  ·exact H.up z (inA z hz) j hj
  ·rcases List.mem_cons.1 hz with rfl | hz
   ·rcases hf j hj with h | h
    ·exact H.up x hx j h
    ·omega
   ·exact H.up z (inB z hz) j hj
 ·rcases hf j h1 with h | h
  ·exact d4 z hz j h h2
  ·exact far z (inB z hz) j h2 h
 ·rcases List.mem_cons.1 hu with rfl | hu
  ·rcases hf j h2 with h | h
   ·exact d3 z hz x (List.mem_cons_self) j h1 h
   ·exact far z (inA z hz) j h1 h
  ·exact d3 z hz u (List.mem_cons_of_mem _ hu) j h1 h2
theorem Cx.sub {m : List It} (H : Cx w0 w l) (h : m.Sublist l) : Cx w0 w m := ⟨H.bel, fun x hx => H.it x (h.subset hx), fun x hx => H.up x (h.subset hx), H.dis.sublist h⟩
theorem Cx.perm {m : List It} (H : Cx w0 w l) (h : l.Perm m) : Cx w0 w m := ⟨H.bel, fun x hx => H.it x (h.mem_iff.2 hx), fun x hx => H.up x (h.mem_iff.2 hx), H.dis.perm h (fun h1 k h2 h3 => h1 k h3 h2)⟩
theorem Cx.base {v0 : World} (H : Cx w0 w l) (k : Below v0.heap.size v0 w0) (hs : v0.heap.size ≤ w0.heap.size) : Cx v0 w l := ⟨k.trans (H.bel.mono hs), H.it, fun x hx j hj => Nat.le_trans hs (H.up x hx j hj), H.dis⟩
theorem Cx.tl (H : Cx w0 w (x :: l)) : Cx w0 w l := H.sub (List.sublist_cons_self x l)
end
structure Its (l : List It) (w : World) : Prop where
 it : ∀ x, x ∈ l → x.p w
theorem Cx.its {w0 w : World} {l : List It} (H : Cx w0 w l) : Its l w := ⟨H.it⟩
theorem Its.nil (w : World) : Its [] w := ⟨fun _ h => (by cases h)⟩
theorem Its.cons {w : World} {x : It} {l : List It} (h : x.p w) (t : Its l w) : Its (x :: l) w := ⟨fun y hy => by
 rcases List.mem_cons.1 hy with rfl | hy
 ·exact h
 ·exact t.it y hy⟩
theorem Its.tl {w : World} {x : It} {l : List It} (h : Its (x :: l) w) : Its l w := ⟨fun y hy => h.it y (List.mem_cons_of_mem _ hy)⟩
theorem Cx.v0 {w0 w : World} {l : List It} {t : TypeId} {b N cap : Nat} {g : Nat → Value} (H : Cx w0 w (vhI t b N cap g :: l)) : Vh t w b N cap g := H.it _ (List.mem_cons_self)
theorem Its.v0 {w : World} {l : List It} {t : TypeId} {b N cap : Nat} {g : Nat → Value} (H : Its (vhI t b N cap g :: l) w) : Vh t w b N cap g := H.it _ (List.mem_cons_self)
theorem Cx.o0 {w0 w : World} {l : List It} {x : It} (H : Cx w0 w (x :: l)) : x.p w := H.it _ (List.mem_cons_self)
theorem Cx.p0 {w0 w w' : World} {l : List It} {x : It} (H : Cx w0 w (x :: l)) (os : w'.os = w.os) (tape : w'.tape = w.tape) (output : w'.output = w.output) (size : w.heap.size ≤ w'.heap.size) (hk : ∀ k, k < w.heap.size → ¬ x.foot k → w'.heap[k]? = w.heap[k]?) (y : It) (hy : y.p w') (hf : ∀ j, y.foot j → x.foot j ∨ w.heap.size ≤ j) : Cx w0 w' (y :: l) := Cx.put (a := []) H os tape output size hk y hy hf
theorem Cx.v1 {w0 w : World} {x0 : It} {l : List It} {t : TypeId} {b N cap : Nat} {g : Nat → Value} (H : Cx w0 w (x0 :: vhI t b N cap g :: l)) : Vh t w b N cap g := H.it _ (List.mem_cons_of_mem _ (List.mem_cons_self))
theorem Its.v1 {w : World} {x0 : It} {l : List It} {t : TypeId} {b N cap : Nat} {g : Nat → Value} (H : Its (x0 :: vhI t b N cap g :: l) w) : Vh t w b N cap g := H.it _ (List.mem_cons_of_mem _ (List.mem_cons_self))
theorem Cx.o1 {w0 w : World} {x0 : It} {l : List It} {x : It} (H : Cx w0 w (x0 :: x :: l)) : x.p w := H.it _ (List.mem_cons_of_mem _ (List.mem_cons_self))
theorem Cx.p1 {w0 w w' : World} {x0 : It} {l : List It} {x : It} (H : Cx w0 w (x0 :: x :: l)) (os : w'.os = w.os) (tape : w'.tape = w.tape) (output : w'.output = w.output) (size : w.heap.size ≤ w'.heap.size) (hk : ∀ k, k < w.heap.size → ¬ x.foot k → w'.heap[k]? = w.heap[k]?) (y : It) (hy : y.p w') (hf : ∀ j, y.foot j → x.foot j ∨ w.heap.size ≤ j) : Cx w0 w' (x0 :: y :: l) := Cx.put (a := [x0]) H os tape output size hk y hy hf
theorem Cx.s1 {w0 w w' : World} {x0 : It} {l : List It} {t : TypeId} {b N cap : Nat} {g g' : Nat → Value} (H : Cx w0 w (x0 :: vhI t b N cap g :: l)) (k : Kept b w w') (m : Vh t w' b N cap g') : Cx w0 w' (x0 :: vhI t b N cap g' :: l) := Cx.p1 H k.os k.tape k.output k.size (fun j h1 h2 => k.block j h1 h2) (vhI t b N cap g') m (fun _ h => Or.inl h)
theorem Cx.f1 {w0 w : World} {x0 : It} {x : It} {l : List It} (H : Cx w0 w (x0 :: x :: l)) : Cx w0 w (x :: x0 :: l) := H.perm (List.perm_middle (l₁ := [x0]))
theorem Cx.b1 {w0 w : World} {x0 : It} {x : It} {l : List It} (H : Cx w0 w (x :: x0 :: l)) : Cx w0 w (x0 :: x :: l) := H.perm (List.perm_middle (l₁ := [x0])).symm
theorem Cx.v2 {w0 w : World} {x0 x1 : It} {l : List It} {t : TypeId} {b N cap : Nat} {g : Nat → Value} (H : Cx w0 w (x0 :: x1 :: vhI t b N cap g :: l)) : Vh t w b N cap g := H.it _ (List.mem_cons_of_mem _ (List.mem_cons_of_mem _ (List.mem_cons_self)))
theorem Its.v2 {w : World} {x0 x1 : It} {l : List It} {t : TypeId} {b N cap : Nat} {g : Nat → Value} (H : Its (x0 :: x1 :: vhI t b N cap g :: l) w) : Vh t w b N cap g := H.it _ (List.mem_cons_of_mem _ (List.mem_cons_of_mem _ (List.mem_cons_self)))
theorem Cx.o2 {w0 w : World} {x0 x1 : It} {l : List It} {x : It} (H : Cx w0 w (x0 :: x1 :: x :: l)) : x.p w := H.it _ (List.mem_cons_of_mem _ (List.mem_cons_of_mem _ (List.mem_cons_self)))
theorem Cx.p2 {w0 w w' : World} {x0 x1 : It} {l : List It} {x : It} (H : Cx w0 w (x0 :: x1 :: x :: l)) (os : w'.os = w.os) (tape : w'.tape = w.tape) (output : w'.output = w.output) (size : w.heap.size ≤ w'.heap.size) (hk : ∀ k, k < w.heap.size → ¬ x.foot k → w'.heap[k]? = w.heap[k]?) (y : It) (hy : y.p w') (hf : ∀ j, y.foot j → x.foot j ∨ w.heap.size ≤ j) : Cx w0 w' (x0 :: x1 :: y :: l) := Cx.put (a := [x0, x1]) H os tape output size hk y hy hf
theorem Cx.s2 {w0 w w' : World} {x0 x1 : It} {l : List It} {t : TypeId} {b N cap : Nat} {g g' : Nat → Value} (H : Cx w0 w (x0 :: x1 :: vhI t b N cap g :: l)) (k : Kept b w w') (m : Vh t w' b N cap g') : Cx w0 w' (x0 :: x1 :: vhI t b N cap g' :: l) := Cx.p2 H k.os k.tape k.output k.size (fun j h1 h2 => k.block j h1 h2) (vhI t b N cap g') m (fun _ h => Or.inl h)
theorem Cx.b2 {w0 w : World} {x0 x1 : It} {x : It} {l : List It} (H : Cx w0 w (x :: x0 :: x1 :: l)) : Cx w0 w (x0 :: x1 :: x :: l) := H.perm (List.perm_middle (l₁ := [x0, x1])).symm
theorem Cx.v3 {w0 w : World} {x0 x1 x2 : It} {l : List It} {t : TypeId} {b N cap : Nat} {g : Nat → Value} (H : Cx w0 w (x0 :: x1 :: x2 :: vhI t b N cap g :: l)) : Vh t w b N cap g := H.it _ (List.mem_cons_of_mem _ (List.mem_cons_of_mem _ (List.mem_cons_of_mem _ (List.mem_cons_self))))
theorem Its.v3 {w : World} {x0 x1 x2 : It} {l : List It} {t : TypeId} {b N cap : Nat} {g : Nat → Value} (H : Its (x0 :: x1 :: x2 :: vhI t b N cap g :: l) w) : Vh t w b N cap g := H.it _ (List.mem_cons_of_mem _ (List.mem_cons_of_mem _ (List.mem_cons_of_mem _ (List.mem_cons_self))))
theorem Cx.p3 {w0 w w' : World} {x0 x1 x2 : It} {l : List It} {x : It} (H : Cx w0 w (x0 :: x1 :: x2 :: x :: l)) (os : w'.os = w.os) (tape : w'.tape = w.tape) (output : w'.output = w.output) (size : w.heap.size ≤ w'.heap.size) (hk : ∀ k, k < w.heap.size → ¬ x.foot k → w'.heap[k]? = w.heap[k]?) (y : It) (hy : y.p w') (hf : ∀ j, y.foot j → x.foot j ∨ w.heap.size ≤ j) : Cx w0 w' (x0 :: x1 :: x2 :: y :: l) := Cx.put (a := [x0, x1, x2]) H os tape output size hk y hy hf
theorem Cx.f3 {w0 w : World} {x0 x1 x2 : It} {x : It} {l : List It} (H : Cx w0 w (x0 :: x1 :: x2 :: x :: l)) : Cx w0 w (x :: x0 :: x1 :: x2 :: l) := H.perm (List.perm_middle (l₁ := [x0, x1, x2]))
theorem Cx.b3 {w0 w : World} {x0 x1 x2 : It} {x : It} {l : List It} (H : Cx w0 w (x :: x0 :: x1 :: x2 :: l)) : Cx w0 w (x0 :: x1 :: x2 :: x :: l) := H.perm (List.perm_middle (l₁ := [x0, x1, x2])).symm
theorem Cx.v4 {w0 w : World} {x0 x1 x2 x3 : It} {l : List It} {t : TypeId} {b N cap : Nat} {g : Nat → Value} (H : Cx w0 w (x0 :: x1 :: x2 :: x3 :: vhI t b N cap g :: l)) : Vh t w b N cap g := H.it _ (List.mem_cons_of_mem _ (List.mem_cons_of_mem _ (List.mem_cons_of_mem _ (List.mem_cons_of_mem _ (List.mem_cons_self)))))
theorem Its.v4 {w : World} {x0 x1 x2 x3 : It} {l : List It} {t : TypeId} {b N cap : Nat} {g : Nat → Value} (H : Its (x0 :: x1 :: x2 :: x3 :: vhI t b N cap g :: l) w) : Vh t w b N cap g := H.it _ (List.mem_cons_of_mem _ (List.mem_cons_of_mem _ (List.mem_cons_of_mem _ (List.mem_cons_of_mem _ (List.mem_cons_self)))))
theorem Cx.p4 {w0 w w' : World} {x0 x1 x2 x3 : It} {l : List It} {x : It} (H : Cx w0 w (x0 :: x1 :: x2 :: x3 :: x :: l)) (os : w'.os = w.os) (tape : w'.tape = w.tape) (output : w'.output = w.output) (size : w.heap.size ≤ w'.heap.size) (hk : ∀ k, k < w.heap.size → ¬ x.foot k → w'.heap[k]? = w.heap[k]?) (y : It) (hy : y.p w') (hf : ∀ j, y.foot j → x.foot j ∨ w.heap.size ≤ j) : Cx w0 w' (x0 :: x1 :: x2 :: x3 :: y :: l) := Cx.put (a := [x0, x1, x2, x3]) H os tape output size hk y hy hf
theorem Cx.b4 {w0 w : World} {x0 x1 x2 x3 : It} {x : It} {l : List It} (H : Cx w0 w (x :: x0 :: x1 :: x2 :: x3 :: l)) : Cx w0 w (x0 :: x1 :: x2 :: x3 :: x :: l) := H.perm (List.perm_middle (l₁ := [x0, x1, x2, x3])).symm
theorem Cx.v5 {w0 w : World} {x0 x1 x2 x3 x4 : It} {l : List It} {t : TypeId} {b N cap : Nat} {g : Nat → Value} (H : Cx w0 w (x0 :: x1 :: x2 :: x3 :: x4 :: vhI t b N cap g :: l)) : Vh t w b N cap g := H.it _ (List.mem_cons_of_mem _ (List.mem_cons_of_mem _ (List.mem_cons_of_mem _ (List.mem_cons_of_mem _ (List.mem_cons_of_mem _ (List.mem_cons_self))))))
theorem Its.v5 {w : World} {x0 x1 x2 x3 x4 : It} {l : List It} {t : TypeId} {b N cap : Nat} {g : Nat → Value} (H : Its (x0 :: x1 :: x2 :: x3 :: x4 :: vhI t b N cap g :: l) w) : Vh t w b N cap g := H.it _ (List.mem_cons_of_mem _ (List.mem_cons_of_mem _ (List.mem_cons_of_mem _ (List.mem_cons_of_mem _ (List.mem_cons_of_mem _ (List.mem_cons_self))))))
theorem Cx.p5 {w0 w w' : World} {x0 x1 x2 x3 x4 : It} {l : List It} {x : It} (H : Cx w0 w (x0 :: x1 :: x2 :: x3 :: x4 :: x :: l)) (os : w'.os = w.os) (tape : w'.tape = w.tape) (output : w'.output = w.output) (size : w.heap.size ≤ w'.heap.size) (hk : ∀ k, k < w.heap.size → ¬ x.foot k → w'.heap[k]? = w.heap[k]?) (y : It) (hy : y.p w') (hf : ∀ j, y.foot j → x.foot j ∨ w.heap.size ≤ j) : Cx w0 w' (x0 :: x1 :: x2 :: x3 :: x4 :: y :: l) := Cx.put (a := [x0, x1, x2, x3, x4]) H os tape output size hk y hy hf
theorem Cx.b5 {w0 w : World} {x0 x1 x2 x3 x4 : It} {x : It} {l : List It} (H : Cx w0 w (x :: x0 :: x1 :: x2 :: x3 :: x4 :: l)) : Cx w0 w (x0 :: x1 :: x2 :: x3 :: x4 :: x :: l) := H.perm (List.perm_middle (l₁ := [x0, x1, x2, x3, x4])).symm
theorem Cx.v6 {w0 w : World} {x0 x1 x2 x3 x4 x5 : It} {l : List It} {t : TypeId} {b N cap : Nat} {g : Nat → Value} (H : Cx w0 w (x0 :: x1 :: x2 :: x3 :: x4 :: x5 :: vhI t b N cap g :: l)) : Vh t w b N cap g := H.it _ (List.mem_cons_of_mem _ (List.mem_cons_of_mem _ (List.mem_cons_of_mem _ (List.mem_cons_of_mem _ (List.mem_cons_of_mem _ (List.mem_cons_of_mem _ (List.mem_cons_self)))))))
theorem Its.v6 {w : World} {x0 x1 x2 x3 x4 x5 : It} {l : List It} {t : TypeId} {b N cap : Nat} {g : Nat → Value} (H : Its (x0 :: x1 :: x2 :: x3 :: x4 :: x5 :: vhI t b N cap g :: l) w) : Vh t w b N cap g := H.it _ (List.mem_cons_of_mem _ (List.mem_cons_of_mem _ (List.mem_cons_of_mem _ (List.mem_cons_of_mem _ (List.mem_cons_of_mem _ (List.mem_cons_of_mem _ (List.mem_cons_self)))))))
theorem Cx.p6 {w0 w w' : World} {x0 x1 x2 x3 x4 x5 : It} {l : List It} {x : It} (H : Cx w0 w (x0 :: x1 :: x2 :: x3 :: x4 :: x5 :: x :: l)) (os : w'.os = w.os) (tape : w'.tape = w.tape) (output : w'.output = w.output) (size : w.heap.size ≤ w'.heap.size) (hk : ∀ k, k < w.heap.size → ¬ x.foot k → w'.heap[k]? = w.heap[k]?) (y : It) (hy : y.p w') (hf : ∀ j, y.foot j → x.foot j ∨ w.heap.size ≤ j) : Cx w0 w' (x0 :: x1 :: x2 :: x3 :: x4 :: x5 :: y :: l) := Cx.put (a := [x0, x1, x2, x3, x4, x5]) H os tape output size hk y hy hf
theorem Cx.b6 {w0 w : World} {x0 x1 x2 x3 x4 x5 : It} {x : It} {l : List It} (H : Cx w0 w (x :: x0 :: x1 :: x2 :: x3 :: x4 :: x5 :: l)) : Cx w0 w (x0 :: x1 :: x2 :: x3 :: x4 :: x5 :: x :: l) := H.perm (List.perm_middle (l₁ := [x0, x1, x2, x3, x4, x5])).symm
theorem Cx.v7 {w0 w : World} {x0 x1 x2 x3 x4 x5 x6 : It} {l : List It} {t : TypeId} {b N cap : Nat} {g : Nat → Value} (H : Cx w0 w (x0 :: x1 :: x2 :: x3 :: x4 :: x5 :: x6 :: vhI t b N cap g :: l)) : Vh t w b N cap g := H.it _ (List.mem_cons_of_mem _ (List.mem_cons_of_mem _ (List.mem_cons_of_mem _ (List.mem_cons_of_mem _ (List.mem_cons_of_mem _ (List.mem_cons_of_mem _ (List.mem_cons_of_mem _ (List.mem_cons_self))))))))
theorem Its.v7 {w : World} {x0 x1 x2 x3 x4 x5 x6 : It} {l : List It} {t : TypeId} {b N cap : Nat} {g : Nat → Value} (H : Its (x0 :: x1 :: x2 :: x3 :: x4 :: x5 :: x6 :: vhI t b N cap g :: l) w) : Vh t w b N cap g := H.it _ (List.mem_cons_of_mem _ (List.mem_cons_of_mem _ (List.mem_cons_of_mem _ (List.mem_cons_of_mem _ (List.mem_cons_of_mem _ (List.mem_cons_of_mem _ (List.mem_cons_of_mem _ (List.mem_cons_self))))))))
theorem Cx.p7 {w0 w w' : World} {x0 x1 x2 x3 x4 x5 x6 : It} {l : List It} {x : It} (H : Cx w0 w (x0 :: x1 :: x2 :: x3 :: x4 :: x5 :: x6 :: x :: l)) (os : w'.os = w.os) (tape : w'.tape = w.tape) (output : w'.output = w.output) (size : w.heap.size ≤ w'.heap.size) (hk : ∀ k, k < w.heap.size → ¬ x.foot k → w'.heap[k]? = w.heap[k]?) (y : It) (hy : y.p w') (hf : ∀ j, y.foot j → x.foot j ∨ w.heap.size ≤ j) : Cx w0 w' (x0 :: x1 :: x2 :: x3 :: x4 :: x5 :: x6 :: y :: l) := Cx.put (a := [x0, x1, x2, x3, x4, x5, x6]) H os tape output size hk y hy hf
theorem Cx.b7 {w0 w : World} {x0 x1 x2 x3 x4 x5 x6 : It} {x : It} {l : List It} (H : Cx w0 w (x :: x0 :: x1 :: x2 :: x3 :: x4 :: x5 :: x6 :: l)) : Cx w0 w (x0 :: x1 :: x2 :: x3 :: x4 :: x5 :: x6 :: x :: l) := H.perm (List.perm_middle (l₁ := [x0, x1, x2, x3, x4, x5, x6])).symm
theorem Cx.v8 {w0 w : World} {x0 x1 x2 x3 x4 x5 x6 x7 : It} {l : List It} {t : TypeId} {b N cap : Nat} {g : Nat → Value} (H : Cx w0 w (x0 :: x1 :: x2 :: x3 :: x4 :: x5 :: x6 :: x7 :: vhI t b N cap g :: l)) : Vh t w b N cap g := H.it _ (List.mem_cons_of_mem _ (List.mem_cons_of_mem _ (List.mem_cons_of_mem _ (List.mem_cons_of_mem _ (List.mem_cons_of_mem _ (List.mem_cons_of_mem _ (List.mem_cons_of_mem _ (List.mem_cons_of_mem _ (List.mem_cons_self)))))))))
theorem Its.v8 {w : World} {x0 x1 x2 x3 x4 x5 x6 x7 : It} {l : List It} {t : TypeId} {b N cap : Nat} {g : Nat → Value} (H : Its (x0 :: x1 :: x2 :: x3 :: x4 :: x5 :: x6 :: x7 :: vhI t b N cap g :: l) w) : Vh t w b N cap g := H.it _ (List.mem_cons_of_mem _ (List.mem_cons_of_mem _ (List.mem_cons_of_mem _ (List.mem_cons_of_mem _ (List.mem_cons_of_mem _ (List.mem_cons_of_mem _ (List.mem_cons_of_mem _ (List.mem_cons_of_mem _ (List.mem_cons_self)))))))))
theorem Cx.p8 {w0 w w' : World} {x0 x1 x2 x3 x4 x5 x6 x7 : It} {l : List It} {x : It} (H : Cx w0 w (x0 :: x1 :: x2 :: x3 :: x4 :: x5 :: x6 :: x7 :: x :: l)) (os : w'.os = w.os) (tape : w'.tape = w.tape) (output : w'.output = w.output) (size : w.heap.size ≤ w'.heap.size) (hk : ∀ k, k < w.heap.size → ¬ x.foot k → w'.heap[k]? = w.heap[k]?) (y : It) (hy : y.p w') (hf : ∀ j, y.foot j → x.foot j ∨ w.heap.size ≤ j) : Cx w0 w' (x0 :: x1 :: x2 :: x3 :: x4 :: x5 :: x6 :: x7 :: y :: l) := Cx.put (a := [x0, x1, x2, x3, x4, x5, x6, x7]) H os tape output size hk y hy hf
theorem Cx.v9 {w0 w : World} {x0 x1 x2 x3 x4 x5 x6 x7 x8 : It} {l : List It} {t : TypeId} {b N cap : Nat} {g : Nat → Value} (H : Cx w0 w (x0 :: x1 :: x2 :: x3 :: x4 :: x5 :: x6 :: x7 :: x8 :: vhI t b N cap g :: l)) : Vh t w b N cap g := H.it _ (List.mem_cons_of_mem _ (List.mem_cons_of_mem _ (List.mem_cons_of_mem _ (List.mem_cons_of_mem _ (List.mem_cons_of_mem _ (List.mem_cons_of_mem _ (List.mem_cons_of_mem _ (List.mem_cons_of_mem _ (List.mem_cons_of_mem _ (List.mem_cons_self))))))))))
theorem Its.v9 {w : World} {x0 x1 x2 x3 x4 x5 x6 x7 x8 : It} {l : List It} {t : TypeId} {b N cap : Nat} {g : Nat → Value} (H : Its (x0 :: x1 :: x2 :: x3 :: x4 :: x5 :: x6 :: x7 :: x8 :: vhI t b N cap g :: l) w) : Vh t w b N cap g := H.it _ (List.mem_cons_of_mem _ (List.mem_cons_of_mem _ (List.mem_cons_of_mem _ (List.mem_cons_of_mem _ (List.mem_cons_of_mem _ (List.mem_cons_of_mem _ (List.mem_cons_of_mem _ (List.mem_cons_of_mem _ (List.mem_cons_of_mem _ (List.mem_cons_self))))))))))
theorem Cx.p9 {w0 w w' : World} {x0 x1 x2 x3 x4 x5 x6 x7 x8 : It} {l : List It} {x : It} (H : Cx w0 w (x0 :: x1 :: x2 :: x3 :: x4 :: x5 :: x6 :: x7 :: x8 :: x :: l)) (os : w'.os = w.os) (tape : w'.tape = w.tape) (output : w'.output = w.output) (size : w.heap.size ≤ w'.heap.size) (hk : ∀ k, k < w.heap.size → ¬ x.foot k → w'.heap[k]? = w.heap[k]?) (y : It) (hy : y.p w') (hf : ∀ j, y.foot j → x.foot j ∨ w.heap.size ≤ j) : Cx w0 w' (x0 :: x1 :: x2 :: x3 :: x4 :: x5 :: x6 :: x7 :: x8 :: y :: l) := Cx.put (a := [x0, x1, x2, x3, x4, x5, x6, x7, x8]) H os tape output size hk y hy hf
class FldK (P : Program) (s : TypeId) (k : Nat) (d : outParam Nat) : Prop where
 run : ∀ {f : Operand → Value} {o : Oper} {x : Operand} {b off : Nat}, o.op = .fieldAddr s x k → f x = .pointer (some ⟨b, off, none⟩) → ∀ w, (execOp f o).run P w = .ok (.value (.pointer (some ⟨b, off + d, none⟩))) w
class ManyK (P : Program) (t : TypeId) (n : outParam Nat) : Prop where
 out : Many P t n
class OneK (P : Program) (t : TypeId) : Prop where
 out : OneC P t
class SizK (P : Program) (t : TypeId) (n : outParam Nat) : Prop where
 out : ∀ w, (sizeOf t).run P w = .ok n w
class ArrK (P : Program) (s : TypeId) (len : outParam Nat) (e : outParam TypeId) : Prop where
 out : P.underlying s = some (.array len e)
class SlcK (P : Program) (s : TypeId) (e : outParam TypeId) : Prop where
 out : P.underlying s = some (.slice e)
class ZerK (P : Program) (t : TypeId) (n : outParam Nat) (f : outParam (Nat → Value)) : Prop where
 out : ∀ w, (zeroValue t).run P w = .ok (agV f 0 n) w
class Zer1 (P : Program) (t : TypeId) (v : outParam Value) : Prop where
 out : ∀ w, (zeroValue t).run P w = .ok v w
 one : v.cells = #[v]
class EntK (P : Program) (n : Nat) : Prop where
 out : ∀ args w, (callFunc n args).run P w = .ok (.enter n args) w
class LenK (P : Program) (t : TypeId) : Prop where
 run : ∀ {f : Operand → Value} {o : Oper} {x : Operand} {ao : Option Addr} {n c : Nat}, o.op = .call { callee := .builtin .len, args := #[x], argTypes := #[t] } → f x = .slice ao n c → ∀ w, (execOp f o).run P w = .ok (.value (.int .i64 ((n : Nat) : Int))) w
instance {P : Program} {t : TypeId} {n : Nat} [h : ManyK P t n] : SizK P t n := ⟨h.out.size⟩
instance {P : Program} {t : TypeId} [h : OneK P t] : SizK P t 1 := ⟨h.out.size⟩
section
variable {P : Program} {f : Operand → Value} {o : Oper}
theorem run_nilC (x : Operand) (ho : o.op = .nilCheck x) {a : Addr} (hx : f x = .pointer (some a)) (w : World) : (execOp f o).run P w = .ok (.value (.pointer (some a))) w := by
 unfold execOp
 rw [ho]
 dsimp only
 rw [hx]
 rfl
theorem run_ixSC (s e : TypeId) (x y : Operand) (ho : o.op = .indexAddr s x y) {n : Nat} (hu : P.underlying s = some (.slice e)) (hs : ∀ w, (sizeOf e).run P w = .ok n w) {b off i len cap : Nat} {z : Int} (hx : f x = .slice (some ⟨b, off, none⟩) len cap) (hy : f y = .int .i64 z) (hz : z = (i : Int)) (hi : i < len) (w : World) :
  (execOp f o).run P w = .ok (.value (.pointer (some ⟨b, off + i * n, none⟩))) w := by
 subst hz
 have h2 : (i : Int) < (len : Int) := by omega
 unfold execOp
 simp only [ho, hx, hy, Instr.indexAt, asIntOf, Instr.sureAddr, Sem.run_bind, Sem.run_pure, Result.andThen_ok, run_underlying hu, add_at]
 simp [h2, hs]
theorem ev_func (a : Act) (n : Nat) : a.eval (.func n) = .func (.func n) #[] #[] := rfl
end
theorem Qv {p : Prop} (h : p := by first | exact ev_in rfl (by omega) | exact ev_out rfl (by assumption) | exact ev_const _ _ | exact ev_func _ _) : p := h
theorem Qh {p : Prop} (h : p := by first | exact H.v0 | exact H.v1 | exact H.v2 | exact H.v3 | exact H.v4 | exact H.v5 | exact H.v6 | exact H.v7 | exact H.v8 | exact H.v9 | exact Vh.below G0 H.bel | exact Vh.below G1 H.bel | exact Vh.below G2 H.bel | assumption) : p := h
section
variable {P : Program} {ops : Array Oper} {Q : Exit → Act → World → Prop} {A : Act} {L : List (Nat × Value)} {w0 w : World} {rest : List Oper} {o : Oper} {d : Nat} {v : Value} {l : List It}
theorem qa (h : LstI P ops Q rest (putL A ((d, v) :: L)) w) (hd : o.dst = some d := by rfl) (hw : Region.wanted o (yielded ops (putL A L).tmps) = true := by first | exact wanted_rd rfl | exact wanted_g rfl rfl rfl Qv)
  (hy : (execOp (putL A L).eval o).run P w = .ok (.value v) w := by first
   | exact run_move _ rfl Qv _
   | exact run_assign _ rfl Qv _
   | exact FldK.run rfl Qv _
   | exact run_lod1 _ _ rfl OneK.out Qv Qh (by omega) rfl
   | exact run_loadP _ _ rfl ManyK.out Qv Qh (by omega)
   | exact run_nilC _ rfl Qv _
   | exact run_ixG _ _ _ _ rfl ArrK.out SizK.out Qv Qv rfl (by omega) _
   | exact run_ixSC _ _ _ _ rfl SlcK.out SizK.out Qv Qv rfl (by omega) _
   | exact run_ixVM _ _ _ _ rfl ArrK.out ManyK.out Qv rfl Qv rfl (by omega) _
   | exact run_ixV1 _ _ _ _ rfl ArrK.out OneK.out Qv Qv rfl (by omega) _
   | exact LenK.run rfl Qv _
   | exact run_lssI _ _ rfl Qv Qv rfl _
   | exact run_gtrI _ _ rfl Qv Qv rfl _
   | exact run_eqlI _ _ rfl Qv Qv rfl _
   | exact run_neqI _ _ rfl Qv Qv rfl _
   | exact run_leqI _ _ rfl Qv Qv rfl _
   | exact run_geqI _ _ rfl Qv Qv rfl _
   | exact run_eqlE _ _ rfl Qv Qv rfl _
   | exact run_neqE _ _ rfl Qv Qv rfl _
   | exact run_addI _ _ rfl Qv Qv (by omega) (by omega) _
   | exact run_subI _ _ rfl Qv Qv (by omega) (by omega) _
   | exact run_notB _ _ rfl Qv _
   | exact run_extA _ rfl Qv _
   | exact run_extB _ rfl Qv _
   | exact run_ext3A _ rfl Qv _
   | exact run_ext3B _ rfl Qv _
   | exact run_ext3C _ rfl Qv _) : LstI P ops Q (o :: rest) (putL A L) w := m_mv hd hw hy h
theorem qg (hy : (execOp (putL A L).eval o).run P w = .ok (.value v) w) (h : LstI P ops Q rest (putL A ((d, v) :: L)) w) (hd : o.dst = some d := by rfl) (hw : Region.wanted o (yielded ops (putL A L).tmps) = true := by first | exact wanted_rd rfl | exact wanted_g rfl rfl rfl Qv) : LstI P ops Q (o :: rest) (putL A L) w := m_mv hd hw hy h
variable {S : World → Prop} {late : Nat → Bool} {i : Nat} {r : PlanJ}
theorem qj (h : SeqJ P ops Q S late r (putL A ((d, v) :: L)) w) (ho : ops[i]? = some o := by rfl) (hd : o.dst = some d := by rfl) (hQ : ∀ c a w, Q (.panic c) (a.put (some d) v) w → Q (.panic c) a w := by exact fun _ _ _ h => h) (hw : Region.wanted o (yielded ops (putL A L).tmps) = true := by first | exact wanted_rd rfl | exact wanted_g rfl rfl rfl Qv)
  (hy : ∀ w, (execOp (putL A L).eval o).run P w = .ok (.value v) w := by first
   | exact fun w => run_move _ rfl Qv w
   | exact fun w => run_assign _ rfl Qv w
   | exact fun w => FldK.run rfl Qv w
   | exact fun w => run_nilC _ rfl Qv w
   | exact fun w => run_ixG _ _ _ _ rfl ArrK.out SizK.out Qv Qv rfl (by omega) w
   | exact fun w => run_ixSC _ _ _ _ rfl SlcK.out SizK.out Qv Qv rfl (by omega) w
   | exact fun w => run_ixVM _ _ _ _ rfl ArrK.out ManyK.out Qv rfl Qv rfl (by omega) w
   | exact fun w => run_ixV1 _ _ _ _ rfl ArrK.out OneK.out Qv Qv rfl (by omega) w
   | exact fun w => LenK.run rfl Qv w
   | exact fun w => run_lssI _ _ rfl Qv Qv rfl w
   | exact fun w => run_gtrI _ _ rfl Qv Qv rfl w
   | exact fun w => run_eqlI _ _ rfl Qv Qv rfl w
   | exact fun w => run_neqI _ _ rfl Qv Qv rfl w
   | exact fun w => run_leqI _ _ rfl Qv Qv rfl w
   | exact fun w => run_geqI _ _ rfl Qv Qv rfl w
   | exact fun w => run_eqlE _ _ rfl Qv Qv rfl w
   | exact fun w => run_neqE _ _ rfl Qv Qv rfl w
   | exact fun w => run_addI _ _ rfl Qv Qv (by omega) (by omega) w
   | exact fun w => run_subI _ _ rfl Qv Qv (by omega) (by omega) w
   | exact fun w => run_notB _ _ rfl Qv w
   | exact fun w => run_extA _ rfl Qv w
   | exact fun w => run_extB _ rfl Qv w
   | exact fun w => run_ext3A _ rfl Qv w
   | exact fun w => run_ext3B _ rfl Qv w
   | exact fun w => run_ext3C _ rfl Qv w) : SeqJ P ops Q S late (.mv i r) (putL A L) w := j_mv ho hd hQ hw hy h
theorem qr (hS : S w) (h : SeqJ P ops Q S late r (putL A ((d, v) :: L)) w) (ho : ops[i]? = some o := by rfl) (hd : o.dst = some d := by rfl) (hQ : ∀ c a w, Q (.panic c) (a.put (some d) v) w → Q (.panic c) a w := by exact fun _ _ _ h => h) (hw : Region.wanted o (yielded ops (putL A L).tmps) = true := by first | exact wanted_rd rfl | exact wanted_g rfl rfl rfl Qv)
  (hy : ∀ w, S w → (execOp (putL A L).eval o).run P w = .ok (.value v) w := by first
   | exact fun _ H => run_lod1 _ _ rfl OneK.out Qv Qh (by omega) rfl
   | exact fun _ H => run_loadP _ _ rfl ManyK.out Qv Qh (by omega)) : SeqJ P ops Q S late (.rd i r) (putL A L) w := j_rd ho hd hQ hw hS hy h
theorem q_al (H : Cx w0 w l) {ty : TypeId} {n : Nat} {f : Nat → Value}
  (h : ∀ w', Cx w0 w' (vhI ty w.heap.size n n f :: l) → w'.heap.size = w.heap.size + 1 → LstI P ops Q rest (putL A ((d, .pointer (some ⟨w.heap.size, 0, none⟩)) :: L)) w')
  (ho : o.op = .alloc ty := by rfl) (Z : ZerK P ty n f := by infer_instance) (hn : n ≤ maxLen := by exact of_decide_eq_true rfl) (hd : o.dst = some d := by rfl) (hw : Region.wanted o (yielded ops (putL A L).tmps) = true := by exact wanted_rd rfl) : LstI P ops Q (o :: rest) (putL A L) w :=
 m_do hd hw (fun _ hK => wp_allocG w ty ho Z.out hn (fun w' m k z => hK _ _ (h w' (H.add k _ m (fun j (e : j = _) => Nat.le_of_eq e.symm)) z)))
theorem q_box (H : Cx w0 w l) {ty : TypeId} {x : Operand} {n : Nat} {f : Nat → Value}
  (h : ∀ w', Cx w0 w' (vhI ty w.heap.size n n f :: l) → w'.heap.size = w.heap.size + 1 → LstI P ops Q rest (putL A ((d, .pointer (some ⟨w.heap.size, 0, none⟩)) :: L)) w')
  (ho : o.op = .box ty x := by rfl) (hx : (putL A L).eval x = agV f 0 n := by exact Qv) (hn : n ≤ maxLen := by exact of_decide_eq_true rfl) (hd : o.dst = some d := by rfl) (hw : Region.wanted o (yielded ops (putL A L).tmps) = true := by exact wanted_rd rfl) : LstI P ops Q (o :: rest) (putL A L) w :=
 m_do hd hw (fun _ hK => wp_boxG w ty x ho hx hn (fun w' m k z => hK _ _ (h w' (H.add k _ m (fun j (e : j = _) => Nat.le_of_eq e.symm)) z)))
theorem q_sp2 {ty t : TypeId} {x0 x1 : It} {x y : Operand} {b q n N cap : Nat} {g g' f : Nat → Value} (H : Cx w0 w (x0 :: x1 :: vhI t b N cap g :: l)) (e : ∀ j, j < N → stP g q n f j = g' j) (h1 : ∀ j, j < n → (f j).oneCell' = true)
  (h : ∀ w', Cx w0 w' (x0 :: x1 :: vhI t b N cap g' :: l) → w'.heap.size = w.heap.size → LstI P ops Q rest (putL A L) w')
  (ho : o.op = .store ty x y := by rfl) (T : ManyK P ty n := by infer_instance) (hx : (putL A L).eval x = .pointer (some ⟨b, q, none⟩) := by exact Qv) (hy : (putL A L).eval y = agV f 0 n := by exact Qv) (hn : q + n ≤ N := by omega) (hd : o.dst = none := by rfl) (hw : Region.wanted o (yielded ops (putL A L).tmps) = true := by exact wanted_rd rfl) : LstI P ops Q (o :: rest) (putL A L) w :=
 m_st hw (fun _ hK => wp_storeP w ty x y ho T.out hx hy H.v2 hn h1 hd (fun w' m k z => hK _ (h w' (H.s2 k (m.congr e)) z)))
theorem q_c2 {n : Nat} {x y : Operand} {T : Array TypeId} [E : EntK P n] {u u2 : Value} {R : Ending → World → Prop} (hc : Calls P n #[u, u2] w R)
  (h : ∀ e w', R e w' → ∃ r, e = .returned r ∧ LstI P ops Q rest (putL A ((d, r) :: L)) w') (ho : o.op = .call { callee := .value (.func n), args := #[x, y], argTypes := T } := by rfl) (hx : (putL A L).eval x = u := by exact Qv) (hy : (putL A L).eval y = u2 := by exact Qv) (hd : o.dst = some d := by rfl) (hw : Region.wanted o (yielded ops (putL A L).tmps) = true := by exact wanted_rd rfl) : LstI P ops Q (o :: rest) (putL A L) w :=
 m_do hd hw (fun _ hK => wp_call2 w n x y T ho hx hy (E.out _ _) hc (fun e w' hr => by obtain ⟨r, h1, h2⟩ := h e w' hr; exact ⟨r, h1, hK _ _ h2⟩))
end
section
variable {P : Program} {Q : Exit → Act → World → Prop} {a : Act} {w : World} {y : Code} {J : Act → World → Prop} {id : Nat}
end
theorem q_if {P : Program} {Q : Exit → Act → World → Prop} {A : Act} {L : List (Nat × Value)} {w : World} {c : Operand} {x y : Code} {t : Bool} (h1 : t = true → CodI P x Q (putL A L) w) (h2 : t = false → CodI P y Q (putL A L) w) (hc : (putL A L).eval c = .bool t := by exact Qv) : CodI P (.cond c x y) Q (putL A L) w := c_cond hc h1 h2
theorem q_no {P : Program} {Q : Exit → Act → World → Prop} {A : Act} {L : List (Nat × Value)} {w : World} {c : Operand} {x y : Code} {t : Bool} (ht : t = false) (h : CodI P y Q (putL A L) w) (hc : (putL A L).eval c = .bool t := by exact Qv) : CodI P (.cond c x y) Q (putL A L) w := c_cond hc (fun e => by rw [ht] at e; cases e) (fun _ => h)
end Go.Proofs.Ytdhblehhgpdpdaa
