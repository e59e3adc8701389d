import PyProof.Rows.All
import Wide.All
import OpenK.AllK
import Wide.FinOn
import HandS.ForMost
import HandS.Wide
import PySem.Challenge.RW_slideyards_k00_errors
import HandS.ForExc
import HandS.ExcInit
import HandS.ExcField
import HandS.IsInst
import KE.KExcIs
import HandS.ExcValue
import PyProof.NeData
import HandS.Codes
import HandS.Flow
import HandS.Style
import HandS.Words
set_option Elab.async false
set_option linter.all false
set_option maxRecDepth 100000
set_option maxHeartbeats 2000000
namespace Y
open PySem L2
/-! ### all but one object stands -/
def But (p : Addr) (H H' : Hp) : Prop := ∀ b o, b ≠ p → H b = some o → H' b = some o
theorem But.refl (p : Addr) (H : Hp) : But p H H := fun _ _ _ h => h
theorem But.trans {p : Addr} {H H1 H2 : Hp} (a : But p H H1) (b : But p H1 H2) : But p H H2 := fun c o n h => b c o n (a c o n h)
theorem But.upd {p : Addr} {H : Hp} {o : HO} : But p H (upd H p o) := fun b u n h => by rw [upd_ne n]; exact h
theorem But.of_same {p : Addr} {H H' : Hp} (s : Same H H') : But p H H' := fun b o _ h => s b o h
theorem Same.new {H : Hp} {a : Addr} {o : HO} (h : H a = none) : Same H (upd H a o) := fun b u e => by
  rw [upd_ne (ne_of_none e h)]
  exact e
/-! ### the pen's dict -/
def penD (l : Addr) (a g c f : Int) : List (Key × V) :=
  [(Sum.inr "cells", .ref l), (Sum.inr "at", .int a), (Sum.inr "digits", .int g), (Sum.inr "count", .int c), (Sum.inr "fold", .int f)]
theorem k12 : ¬ ((Sum.inr ("cells" : Str) : Key) = Sum.inr ("at" : Str)) := by decide +kernel
theorem k13 : ¬ ((Sum.inr ("cells" : Str) : Key) = Sum.inr ("digits" : Str)) := by decide +kernel
theorem k14 : ¬ ((Sum.inr ("cells" : Str) : Key) = Sum.inr ("count" : Str)) := by decide +kernel
theorem k15 : ¬ ((Sum.inr ("cells" : Str) : Key) = Sum.inr ("fold" : Str)) := by decide +kernel
theorem k21 : ¬ ((Sum.inr ("at" : Str) : Key) = Sum.inr ("cells" : Str)) := by decide +kernel
theorem k23 : ¬ ((Sum.inr ("at" : Str) : Key) = Sum.inr ("digits" : Str)) := by decide +kernel
theorem k24 : ¬ ((Sum.inr ("at" : Str) : Key) = Sum.inr ("count" : Str)) := by decide +kernel
theorem k25 : ¬ ((Sum.inr ("at" : Str) : Key) = Sum.inr ("fold" : Str)) := by decide +kernel
theorem k31 : ¬ ((Sum.inr ("digits" : Str) : Key) = Sum.inr ("cells" : Str)) := by decide +kernel
theorem k32 : ¬ ((Sum.inr ("digits" : Str) : Key) = Sum.inr ("at" : Str)) := by decide +kernel
theorem k34 : ¬ ((Sum.inr ("digits" : Str) : Key) = Sum.inr ("count" : Str)) := by decide +kernel
theorem k35 : ¬ ((Sum.inr ("digits" : Str) : Key) = Sum.inr ("fold" : Str)) := by decide +kernel
theorem k41 : ¬ ((Sum.inr ("count" : Str) : Key) = Sum.inr ("cells" : Str)) := by decide +kernel
theorem k42 : ¬ ((Sum.inr ("count" : Str) : Key) = Sum.inr ("at" : Str)) := by decide +kernel
theorem k43 : ¬ ((Sum.inr ("count" : Str) : Key) = Sum.inr ("digits" : Str)) := by decide +kernel
theorem k45 : ¬ ((Sum.inr ("count" : Str) : Key) = Sum.inr ("fold" : Str)) := by decide +kernel
theorem k51 : ¬ ((Sum.inr ("fold" : Str) : Key) = Sum.inr ("cells" : Str)) := by decide +kernel
theorem k52 : ¬ ((Sum.inr ("fold" : Str) : Key) = Sum.inr ("at" : Str)) := by decide +kernel
theorem k53 : ¬ ((Sum.inr ("fold" : Str) : Key) = Sum.inr ("digits" : Str)) := by decide +kernel
theorem k54 : ¬ ((Sum.inr ("fold" : Str) : Key) = Sum.inr ("count" : Str)) := by decide +kernel
section
variable {l : Addr} {a g c f z : Int}
theorem pen_cells : valV (penD l a g c f) (Sum.inr "cells") = some (.ref l) := valV_pos rfl
theorem pen_at : valV (penD l a g c f) (Sum.inr "at") = some (.int a) := by
  rw [penD, valV_neg k12, valV_pos rfl]
theorem pen_digits : valV (penD l a g c f) (Sum.inr "digits") = some (.int g) := by
  rw [penD, valV_neg k13, valV_neg k23, valV_pos rfl]
theorem pen_count : valV (penD l a g c f) (Sum.inr "count") = some (.int c) := by
  rw [penD, valV_neg k14, valV_neg k24, valV_neg k34, valV_pos rfl]
theorem pen_fold : valV (penD l a g c f) (Sum.inr "fold") = some (.int f) := by
  rw [penD, valV_neg k15, valV_neg k25, valV_neg k35, valV_neg k45, valV_pos rfl]
theorem put_at : putK (penD l a g c f) (Sum.inr "at") (.int z) = penD l z g c f := by
  unfold putK
  rw [if_pos (by rw [valV_any, pen_at]; rfl)]
  simp only [penD, List.map_cons, List.map_nil, if_neg k12, if_neg k32, if_neg k42, if_neg k52, if_pos]
theorem put_digits : putK (penD l a g c f) (Sum.inr "digits") (.int z) = penD l a z c f := by
  unfold putK
  rw [if_pos (by rw [valV_any, pen_digits]; rfl)]
  simp only [penD, List.map_cons, List.map_nil, if_neg k13, if_neg k23, if_neg k43, if_neg k53, if_pos]
theorem put_count : putK (penD l a g c f) (Sum.inr "count") (.int z) = penD l a g z f := by
  unfold putK
  rw [if_pos (by rw [valV_any, pen_count]; rfl)]
  simp only [penD, List.map_cons, List.map_nil, if_neg k14, if_neg k24, if_neg k34, if_neg k54, if_pos]
theorem put_fold : putK (penD l a g c f) (Sum.inr "fold") (.int z) = penD l a g c z := by
  unfold putK
  rw [if_pos (by rw [valV_any, pen_fold]; rfl)]
  simp only [penD, List.map_cons, List.map_nil, if_neg k15, if_neg k25, if_neg k35, if_neg k45, if_pos]
end
/-- the pen at p, b more draws being allowed -/
structure Pen (H : Hp) (p : Addr) (b : Nat) : Prop where
  ex : ∃ (l : Addr) (ns : List Int) (a g c f : Int), H p = some (.dK (penD l a g c f)) ∧ H l = some (.lst (ns.map V.int)) ∧ ns.length ≤ 63 ∧
    0 ≤ a ∧ 0 ≤ g ∧ 0 ≤ c ∧ c + (b : Int) ≤ 2 ^ 40 ∧ 0 ≤ f ∧ f < 2147483587
theorem Pen.less {H : Hp} {p : Addr} {b b' : Nat} (h : Pen H p b) (hb : b' ≤ b) : Pen H p b' := by
  obtain ⟨l, ns, a, g, c, f, h1, h2, h3, h4, h5, h6, h7, h8, h9⟩ := h.ex
  exact ⟨l, ns, a, g, c, f, h1, h2, h3, h4, h5, h6, by omega, h8, h9⟩
theorem Pen.there {H : Hp} {p : Addr} {b : Nat} (h : Pen H p b) : ∃ kvs, H p = some (.dK kvs) := by
  obtain ⟨l, ns, a, g, c, f, h1, _⟩ := h.ex
  exact ⟨_, h1⟩
theorem Pen.same {H H' : Hp} {p : Addr} {b : Nat} (h : Pen H p b) (s : Same H H') : Pen H' p b := by
  obtain ⟨l, ns, a, g, c, f, h1, h2, h3⟩ := h.ex
  exact ⟨l, ns, a, g, c, f, s _ _ h1, s _ _ h2, h3⟩
/-! ### the promises -/
def spPen (K : PySem.W.Frag) : Sp := fun vs H Q _ => ∃ (a : Addr) (ns : List Int), vs = [.ref a] ∧ SqL K H a (ns.map V.int) ∧ ns.length ≤ 63 ∧
  ∀ (p : Addr) (H' : Hp), Pen H' p (2 ^ 40) → Same H H' → H p = none → Q (.ref p) H'
def spDraw : Sp := fun vs H Q _ => ∃ (p : Addr) (m : Int) (b : Nat), vs = [.ref p, .int m] ∧ Pen H p (b + 1) ∧ 0 < m ∧ m ≤ 2 ^ 40 ∧
  ∀ (n : Int) (H' : Hp), 0 ≤ n → n < m → Pen H' p b → But p H H' → Q (.int n) H'
def spPick (K : PySem.W.Frag) : Sp := fun vs H Q _ => ∃ (p l : Addr) (xs : List V) (b : Nat), vs = [.ref p, .ref l] ∧ Pen H p (b + 1) ∧ (SqL K H l xs ∨ SqT K H l xs) ∧ xs ≠ [] ∧ xs.length ≤ 1000000 ∧
  ∀ (x : V) (i : Nat) (H' : Hp), xs[i]? = some x → Pen H' p b → But p H H' → Q x H'
theorem pen_merge {l : Addr} {a g c f : Int} : mergeK [] (penD l a g c f) = penD l a g c f := by
  show putK (putK (putK (putK (putK ([]) (Sum.inr "cells" : Key) (V.ref l)) (Sum.inr "at" : Key) (V.int a)) (Sum.inr "digits" : Key) (V.int g)) (Sum.inr "count" : Key) (V.int c)) (Sum.inr "fold" : Key) (V.int f) = penD l a g c f
  have e1 : putK ([] : List (Key × V)) (Sum.inr "cells" : Key) (V.ref l) = [((Sum.inr "cells" : Key), V.ref l)] := putK_new _ rfl
  have e2 : putK [((Sum.inr "cells" : Key), V.ref l)] (Sum.inr "at" : Key) (V.int a) = [((Sum.inr "cells" : Key), V.ref l), ((Sum.inr "at" : Key), V.int a)] := putK_new _ (by rw [valV_neg k12]; rfl)
  have e3 : putK [((Sum.inr "cells" : Key), V.ref l), ((Sum.inr "at" : Key), V.int a)] (Sum.inr "digits" : Key) (V.int g) = [((Sum.inr "cells" : Key), V.ref l), ((Sum.inr "at" : Key), V.int a), ((Sum.inr "digits" : Key), V.int g)] := putK_new _ (by rw [valV_neg k13, valV_neg k23]; rfl)
  have e4 : putK [((Sum.inr "cells" : Key), V.ref l), ((Sum.inr "at" : Key), V.int a), ((Sum.inr "digits" : Key), V.int g)] (Sum.inr "count" : Key) (V.int c) = [((Sum.inr "cells" : Key), V.ref l), ((Sum.inr "at" : Key), V.int a), ((Sum.inr "digits" : Key), V.int g), ((Sum.inr "count" : Key), V.int c)] := putK_new _ (by rw [valV_neg k14, valV_neg k24, valV_neg k34]; rfl)
  have e5 : putK [((Sum.inr "cells" : Key), V.ref l), ((Sum.inr "at" : Key), V.int a), ((Sum.inr "digits" : Key), V.int g), ((Sum.inr "count" : Key), V.int c)] (Sum.inr "fold" : Key) (V.int f) = [((Sum.inr "cells" : Key), V.ref l), ((Sum.inr "at" : Key), V.int a), ((Sum.inr "digits" : Key), V.int g), ((Sum.inr "count" : Key), V.int c), ((Sum.inr "fold" : Key), V.int f)] := putK_new _ (by rw [valV_neg k15, valV_neg k25, valV_neg k35, valV_neg k45]; rfl)
  rw [e1, e2, e3, e4, e5]
  rfl
theorem pen_small {l : Addr} {a g c f : Int} : (penD l a g c f).length < sizeLine := by show 5 < sizeLine; decide
section
variable {H : Hp} {p l : Addr} {a g c f z : Int}
theorem get_cells (e : H p = some (.dK (penD l a g c f))) : DGet H p (.str "cells") (some (.ref l)) := .inl ⟨_, Sum.inr "cells", .inl e, rfl, pen_cells.symm⟩
theorem get_at (e : H p = some (.dK (penD l a g c f))) : DGet H p (.str "at") (some (.int a)) := .inl ⟨_, Sum.inr "at", .inl e, rfl, pen_at.symm⟩
theorem get_digits (e : H p = some (.dK (penD l a g c f))) : DGet H p (.str "digits") (some (.int g)) := .inl ⟨_, Sum.inr "digits", .inl e, rfl, pen_digits.symm⟩
theorem get_count (e : H p = some (.dK (penD l a g c f))) : DGet H p (.str "count") (some (.int c)) := .inl ⟨_, Sum.inr "count", .inl e, rfl, pen_count.symm⟩
theorem get_fold (e : H p = some (.dK (penD l a g c f))) : DGet H p (.str "fold") (some (.int f)) := .inl ⟨_, Sum.inr "fold", .inl e, rfl, pen_fold.symm⟩
theorem dput_count (e : H p = some (.dK (penD l a g c f))) : DPut H p (.str "count") (.int z) (upd H p (.dK (penD l a g z f))) := .inl ⟨_, Sum.inr "count", e, rfl, pen_small, by rw [put_count]⟩
theorem dput_at : DPut (upd H p (.dK (penD l a g c f))) p (.str "at") (.int z) (upd H p (.dK (penD l z g c f))) := .inl ⟨_, Sum.inr "at", upd_same, rfl, pen_small, by rw [put_at, upd_upd]⟩
theorem dput_digits : DPut (upd H p (.dK (penD l a g c f))) p (.str "digits") (.int z) (upd H p (.dK (penD l a z c f))) := .inl ⟨_, Sum.inr "digits", upd_same, rfl, pen_small, by rw [put_digits, upd_upd]⟩
theorem dput_fold : DPut (upd H p (.dK (penD l a g c f))) p (.str "fold") (.int z) (upd H p (.dK (penD l a g c z))) := .inl ⟨_, Sum.inr "fold", upd_same, rfl, pen_small, by rw [put_fold, upd_upd]⟩
end
theorem But.keep {p : Addr} {H H' : Hp} {a : Addr} {o u : HO} (s : But p H H') (hp : H p = some u) (h : H a = some o) (d : o ≠ u) : H' a = some o := s a o (fun e => d (by rw [e, hp] at h; exact (Option.some.inj h).symm)) h
theorem ints_at {ns : List Int} {i : Nat} {y : V} (h : (ns.map V.int)[i]? = some y) : ∃ z, ns[i]? = some z ∧ y = V.int z := by
  rw [List.getElem?_map] at h
  cases e : ns[i]? with
  | none => rw [e] at h; cases h
  | some z => rw [e] at h; exact ⟨z, rfl, (Option.some.inj h).symm⟩
end Y
namespace Y
open PySem L2
theorem atI_int {α : Type} {xs : List α} {i : Int} {v : α} (h0 : 0 ≤ i) (h : xs[i.toNat]? = some v) : atI xs i = some v := by
  have := atI_nat h
  rwa [show ((i.toNat : Nat) : Int) = i by omega] at this
/-- an item that is there -/
theorem there_int {α : Type} {xs : List α} {i : Int} (h0 : 0 ≤ i) (h1 : i < (xs.length : Int)) : ∃ v, xs[i.toNat]? = some v ∧ atI xs i = some v := by
  have h : i.toNat < xs.length := by omega
  exact ⟨xs[i.toNat], List.getElem?_eq_getElem h, atI_int h0 (List.getElem?_eq_getElem h)⟩
theorem But.seq {K : PySem.W.Frag} {p : Addr} {H H' : Hp} {a : Addr} {xs : List V} {kvs : List (Key × V)} (e : But p H H') (hp : H p = some (.dK kvs)) (h : SqL K H a xs) : SqL K H' a xs := by
  rcases h with (h | ⟨o, h⟩) | h
  · exact .inl (.inl (e.keep hp h (by intro z; cases z)))
  · exact .inl (.inr ⟨o, e.keep hp h (by intro z; cases z)⟩)
  · exact .inr h
theorem But.seqT {K : PySem.W.Frag} {p : Addr} {H H' : Hp} {a : Addr} {xs : List V} {kvs : List (Key × V)} (e : But p H H') (hp : H p = some (.dK kvs)) (h : SqT K H a xs) : SqT K H' a xs := by
  rcases h with (h | ⟨o, h⟩) | h
  · exact .inl (.inl (e.keep hp h (by intro z; cases z)))
  · exact .inl (.inr ⟨o, e.keep hp h (by intro z; cases z)⟩)
  · exact .inr h
end Y
namespace Y
open PySem
def top (i : Nat) : Stmt := PySem.Challenge.pw_slideyards_k00_errors.main.body.getD i (.Pass ⟨0, 0, 0, 0⟩)
end Y
set_option Elab.async false
set_option linter.all false
set_option maxRecDepth 100000
set_option maxHeartbeats 2000000
/-! comprehensions whose items are reckoned without a trace: the new list holds the values in order -/
namespace Y
open PySem PySem.Spec PyProof.Rows L2
theorem take_next {α : Type} : ∀ {l : List α} {i : Nat} {x : α}, l[i]? = some x → l.take (i + 1) = l.take i ++ [x]
  | [], i, x, h => by simp at h
  | a :: l, 0, x, h => by
    cases Option.some.inj h
    rfl
  | a :: l, i + 1, x, h => by
    have ih := take_next (l := l) (i := i) (x := x) h
    show a :: l.take (i + 1) = a :: l.take i ++ [x]
    rw [ih]
    rfl
section
variable {K : PySem.W.Frag} {a D : Addr} {xs : List V} {g : TG} {te : TE} {vs : List Nat} {σ : L2.St} {H1 : Hp} {Qd : Hp → Prop} {f : V → V}
/-- over a list -/
theorem lcp_list (hn : H1 D = none) (hz : xs.length ≤ 1000000) (ha : SqL K H1 a xs)
    (he : ∀ (i : Nat) (x : V) (H : Hp) (R : VK), xs[i]? = some x → Same H1 H → R (f x) H → g x (wipe σ vs) H fun σ2 H2 => wipe σ2 vs = wipe σ vs ∧ te σ2 H2 R) (hd : Qd (upd H1 D (.lst (xs.map f)))) :
    ∃ W : Nat → Nat → Hp → Prop, (∃ m, W 0 m (upd H1 D (.lst []))) ∧ ∀ i m H, W i m H →
      ((Itl K a).stop i H ∧ Qd H) ∨ ((Itl K a).go i H ∧ ∃ Nx : Hp → Prop, (∀ H', Nx H' → ∃ m', m' < m ∧ W (i + 1) m' H') ∧ ∀ x H', (Itl K a).yld i H x H' → g x (wipe σ vs) H' fun σ2 H2 => wipe σ2 vs = wipe σ vs ∧ tYes σ2 H2 fun b H3 =>
        if b = true then te σ2 H3 fun y H4 => ∃ acc, H4 D = some (.lst acc) ∧ acc.length < sizeLine ∧ Nx (upd H4 D (.lst (acc ++ [y]))) else Nx H3) := by
  refine lc_list (K := K) (a := a) (xs := xs) (fun i H => H = upd H1 D (.lst ((xs.take i).map f))) rfl (fun i H _ e => ?_) (fun i x H hi e => ?_) (fun H e => ?_)
  · rw [e]
    exact (Y.Same.new hn).seq ha
  · subst e
    refine he i x _ _ hi (Y.Same.new hn) ⟨(xs.take i).map f, upd_same, ?_, ?_⟩
    · rw [List.length_map, List.length_take]
      have : sizeLine = 16777216 := sizeLine_eq
      omega
    · rw [upd_upd, take_next hi, List.map_append]
      rfl
  · rw [e, List.take_length]
    exact hd
/-- over a tuple -/
theorem lcp_tup (hn : H1 D = none) (hz : xs.length ≤ 1000000) (ha : SqT K H1 a xs) (hS : ∀ H', Same H1 H' → SqT K H' a xs)
    (he : ∀ (i : Nat) (x : V) (H : Hp) (R : VK), xs[i]? = some x → Same H1 H → R (f x) H → g x (wipe σ vs) H fun σ2 H2 => wipe σ2 vs = wipe σ vs ∧ te σ2 H2 R) (hd : Qd (upd H1 D (.lst (xs.map f)))) :
    ∃ W : Nat → Nat → Hp → Prop, (∃ m, W 0 m (upd H1 D (.lst []))) ∧ ∀ i m H, W i m H →
      ((Itt K a).stop i H ∧ Qd H) ∨ ((Itt K a).go i H ∧ ∃ Nx : Hp → Prop, (∀ H', Nx H' → ∃ m', m' < m ∧ W (i + 1) m' H') ∧ ∀ x H', (Itt K a).yld i H x H' → g x (wipe σ vs) H' fun σ2 H2 => wipe σ2 vs = wipe σ vs ∧ tYes σ2 H2 fun b H3 =>
        if b = true then te σ2 H3 fun y H4 => ∃ acc, H4 D = some (.lst acc) ∧ acc.length < sizeLine ∧ Nx (upd H4 D (.lst (acc ++ [y]))) else Nx H3) := by
  refine lc_tup (K := K) (a := a) (xs := xs) (fun i H => H = upd H1 D (.lst ((xs.take i).map f))) rfl (fun i H _ e => ?_) (fun i x H hi e => ?_) (fun H e => ?_)
  · rw [e]
    exact hS _ (Y.Same.new hn)
  · subst e
    refine he i x _ _ hi (Y.Same.new hn) ⟨(xs.take i).map f, upd_same, ?_, ?_⟩
    · rw [List.length_map, List.length_take]
      have : sizeLine = 16777216 := sizeLine_eq
      omega
    · rw [upd_upd, take_next hi, List.map_append]
      rfl
  · rw [e, List.take_length]
    exact hd
/-- over a text, sign by sign -/
theorem lcp_str {t : Str} {f : Nat → V} (hn : H1 D = none) (hz : t.cps.size ≤ 1000000)
    (he : ∀ (i c : Nat) (H : Hp) (R : VK), t.cps[i]? = some c → Same H1 H → R (f c) H → g (.str ⟨#[c]⟩) (wipe σ vs) H fun σ2 H2 => wipe σ2 vs = wipe σ vs ∧ te σ2 H2 R) (hd : Qd (upd H1 D (.lst (t.cps.toList.map f)))) :
    ∃ W : Nat → Nat → Hp → Prop, (∃ m, W 0 m (upd H1 D (.lst []))) ∧ ∀ i m H, W i m H →
      ((Its t).stop i H ∧ Qd H) ∨ ((Its t).go i H ∧ ∃ Nx : Hp → Prop, (∀ H', Nx H' → ∃ m', m' < m ∧ W (i + 1) m' H') ∧ ∀ x H', (Its t).yld i H x H' → g x (wipe σ vs) H' fun σ2 H2 => wipe σ2 vs = wipe σ vs ∧ tYes σ2 H2 fun b H3 =>
        if b = true then te σ2 H3 fun y H4 => ∃ acc, H4 D = some (.lst acc) ∧ acc.length < sizeLine ∧ Nx (upd H4 D (.lst (acc ++ [y]))) else Nx H3) := by
  refine ⟨fun i m H => m = t.cps.size - i ∧ i ≤ t.cps.size ∧ H = upd H1 D (.lst ((t.cps.toList.take i).map f)), ⟨t.cps.size, by simp, Nat.zero_le _, rfl⟩, ?_⟩
  rintro i m H ⟨rfl, hi, rfl⟩
  by_cases c : i < t.cps.size
  · refine .inr ⟨c, fun H => H = upd H1 D (.lst ((t.cps.toList.take (i + 1)).map f)), fun H' e => ⟨t.cps.size - (i + 1), by omega, rfl, c, e⟩, ?_⟩
    rintro x H' ⟨rfl, d, hd', rfl⟩
    refine he i d _ _ hd' (Y.Same.new hn) ⟨_, upd_same, ?_, ?_⟩
    · rw [List.length_map]
      have : sizeLine = 16777216 := sizeLine_eq
      have := List.length_take_le i t.cps.toList
      omega
    · have e : t.cps.toList[i]? = some d := by rw [Array.getElem?_toList]; exact hd'
      rw [upd_upd, take_next e, List.map_append]
      rfl
  · refine .inl ⟨by show t.cps.size ≤ i; omega, ?_⟩
    rw [List.take_of_length_le (by rw [Array.length_toList]; omega)]
    exact hd
end
theorem Same.seqT {K : PySem.W.Frag} {H H' : Hp} {a : Addr} {xs : List V} (e : Same H H') (h : SqT K H a xs) : SqT K H' a xs := by
  rcases h with (h | ⟨o, h⟩) | h
  · exact .inl (.inl (e _ _ h))
  · exact .inl (.inr ⟨o, e _ _ h⟩)
  · exact .inr h
end Y
namespace Y
open PySem PySem.Spec PyProof.Rows L2
section
variable {X : Cx} {x : Str} {pos : Pos}
/-- a name of the module: an int, a text, an object -/
theorem pgI {i : Int} {t : Tok} (hm : X.mg x = some (.int i t)) (hg : Gl X x := by rfl) (hd : (x == ("__debug__" : Str)) = false := by decide) : PE X (.Name x pos) (tC (.int i)) := pe_glob (v := .int i) hg hm ⟨_, rfl⟩ hd
theorem pgS {z : Str} {t : Tok} (hm : X.mg x = some (.str z t)) (hg : Gl X x := by rfl) (hd : (x == ("__debug__" : Str)) = false := by decide) : PE X (.Name x pos) (tC (.str z)) := pe_glob (v := .str z) hg hm ⟨_, rfl⟩ hd
theorem pgR {a : Addr} (hm : X.mg x = some (.ref a)) (hg : Gl X x := by rfl) (hd : (x == ("__debug__" : Str)) = false := by decide) : PE X (.Name x pos) (tC (.ref a)) := pe_glob (v := .ref a) hg hm rfl hd
/-- a built-in class as a value -/
theorem pbT {n : String} (hm : X.mg x = none) (hv : bootBuiltins x = some (.type n)) (hg : Gl X x := by rfl) (hn : x ≠ "__name__" := by decide) (hd : (x == ("__debug__" : Str)) = false := by decide) : PE X (.Name x pos) (tC (.ty n)) := pe_bltn (v := .ty n) hg hm hv rfl hn hd
end
theorem ifT {c : Bool} {A B : Prop} (h : c = true → A) (h2 : c = false → B) : if c = true then A else B := by
  cases c with
  | true => rw [if_pos rfl]; exact h rfl
  | false => rw [if_neg Bool.false_ne_true]; exact h2 rfl
theorem len_cps (t : Str) : t.cps.toList.length = t.length := by simp [Str.length]
theorem small_line {n : Nat} (h : n ≤ 1000) : n ≤ sizeLine := Nat.le_trans h (by decide)
end Y
set_option Elab.async false
set_option linter.all false
set_option maxRecDepth 100000
set_option maxHeartbeats 2000000
namespace Y
open PySem PySem.Spec PyProof.Rows L2
/-! ### own errors: made with one, two or three fields by their own first method -/
structure XcC (K : PySem.W.Frag) (C : Addr) : Prop where
  o : OexC K C
  x : XfC K C
  sf : PySem.W.subIn K (.ref C) (.ref C) = some true
  isC : PySem.W.isClsIn K C = true
/-- the promise of such a method: each field is kept under its name -/
def spX1 (C : Addr) (f : Str) : Sp := fun vs H Q _ => ∃ (a : Addr) (v : V), vs = [.ref a, v] ∧ H a = some (exo a C none) ∧
  ∀ dx, H dx = none → dx ≠ a → Q .non (upd (upd H dx (exd dx [(f, v)])) a (exo a C (some dx)))
/-- what C(v) asks, when C's first method keeps spX1 -/
theorem mk1 {C : Addr} {f : Str} {v : V} {H1 : Hp} {Q : XK} (h : ∀ (d : Addr) (H' : Hp), Same H1 H' → H1 d = none → H' d = some (.xd [(f, v)]) → Q (.ref C) (some d) H') :
    ([v] : List V).length ≤ 1000 ∧ ∀ a, H1 a = none → spX1 C f (.ref a :: ([v] ++ [])) (upd H1 a (exo a C none))
      (fun u H2 => u = .non ∧ ∃ (d : Addr) (fs : List (Str × V)), H2 a = some (exo a C (some d)) ∧ H2 d = some (exd d fs) ∧ H1 d = none ∧ Q (.ref C) (some d) (upd (del H2 a) d (.xd fs))) (fun _ _ _ => False) := by
  refine ⟨by show 1 ≤ 1000; decide, fun a ha => ⟨a, v, rfl, upd_same, fun dx hd hne => ⟨rfl, dx, [(f, v)], upd_same, by rw [upd_ne hne]; exact upd_same, by rw [upd_ne hne] at hd; exact hd, ?_⟩⟩⟩
  have hd1 : H1 dx = none := by rw [upd_ne hne] at hd; exact hd
  refine h dx _ (fun b o e => ?_) hd1 upd_same
  have n1 : b ≠ dx := ne_of_none e hd1
  have n2 : b ≠ a := ne_of_none e ha
  rw [upd_ne n1, del_ne n2, upd_ne n2, upd_ne n1, upd_ne n2]
  exact e
/-! ### isinstance of the caught error, which has fields -/
structure XiC (K : PySem.W.Frag) (C : Addr) : Prop where
  k0 : (PySem.W.clsIn K C).isSome = true
  k4 : PySem.W.findIn K (.ref C) "__getattribute__" = some (some (.builtin "BaseException.__getattribute__"))
  k5 : PySem.W.findIn K (.ref C) "__getattr__" = some none
  k6 : PySem.W.subIn K (.ref C) (.type "BaseException") = some true
  k7 : PySem.W.findIn K (.ref C) "__class__" = some (some (.builtin "object.__class__"))
  k8 : PySem.W.specialIn K (.builtin "object.__class__") "__get__" = some (some (.builtin "getset_descriptor.__get__"))
  k9 : PySem.W.takesIn K (.builtin "object.__class__") = some true
  k10 : PySem.W.mroIn K C (.type "object") = some true
def rIsX (K : PySem.W.Frag) (C a : Addr) (cls : Value) (d : Option Addr) : List V → Hp → VK → Prop := fun xs H Q => ∃ (c : V) (u : Value) (b : Bool) (dd : Addr) (fs : List (Str × V)), xs = [.ref a, c] ∧ ClsV c u ∧ cls = .ref C ∧ d = some dd ∧ H dd = some (.xd fs) ∧
  PySem.W.kitOne K (.ref C) u = some b ∧ Q (.bl b) H
theorem call_isX {X : Cx} {a C : Addr} {cls : Value} {d : Option Addr} {oe : Obj} {pn : List (Addr × Obj)} (T : XiC X.K C) (hz : Zc cls d oe) (hf : ∃ vs, oe.data = .fields vs) :
    CallR (X.suite a ((a, oe) :: pn)) (.builtin "isinstance") (rIsX X.K C a cls d) := by
  intro pins s σ H xs us Q I r h
  obtain ⟨c, u, b, dd, fs, rfl, k, rfl, rfl, ea, e, q⟩ := h
  cases r with
  | cons rx rr =>
    cases rr with
    | cons rt rr =>
      cases rr
      cases rx
      cases k.eq rt
      have hpin := (I.pin (a, oe) (List.mem_append.mpr (Or.inl List.mem_cons_self))).1
      obtain ⟨mA, hns, _⟩ := (show ObjOk X.prog X.w H s.heap dd (.xd fs) from I.hok dd _ ea)
      obtain ⟨od, ho, _⟩ := lookIn_ns hns
      obtain ⟨vs, hv⟩ := hf
      have J : PySem.W.InstAt s.heap a oe C (some od) := ⟨hpin, hz.1, by unfold PySem.W.notCls; rw [hv] <;> rfl, by rw [hz.2]; exact ho⟩
      exact PySem.W.kia_one (PySem.W.kitx_exc T.k0 T.k4 T.k5 T.k6 T.k7 T.k8 T.k9 T.k10) I.kIn J e (fun w => nomatch w) fun tk => ⟨.bl b, H, I.kept (t' := tk) fun _ _ w => w, rfl, q⟩
end Y
set_option Elab.async false
set_option linter.all false
set_option maxRecDepth 100000
set_option maxHeartbeats 2000000
namespace Y
open PySem PySem.Spec PyProof.Rows L2
section
variable {X : Cx} {e o : Expr} {es : List Expr} {te : TE} {ta : TA} {pos p p' : Pos}
/-! ### own errors as values: at a an error of the class at C, its dict at d (or none) -/
def tMkV (C : Addr) (sp : Sp) (ta : TA) : TE := fun σ H Q => ta σ H fun vs H1 => vs.length ≤ 1000 ∧ ∀ a, H1 a = none → sp (.ref a :: vs) (upd H1 a (exo a C none)) (fun u H2 => u = .non ∧ Q (.ref a) H2) (fun _ _ _ => False)
theorem pe_mkV {CX : CXT} {x : Str} {C fI : Addr} {k : Nat} {fd : FuncData} {ps : List Str} {sp : Sp} (T : OexC X.K C) (iC : PySem.W.findIn X.K (.ref C) "__init__" = some (some (.ref fI))) (tI : PySem.W.typeIn X.K (.ref fI) = some (.type "function"))
    (F1 : FnOk X.prog X.w X.K X.mg X.base CX k fI fd ps sp) (hr : Room (k + 1) X.A) (hb : Binds X.K fd ps []) (hx : Passes CX X (fun _ _ _ => False)) (hg : Gl X x) (hm : X.mg x = some (.ref C)) (ha : PA X (e :: es) ta)
    (hdb : (x == ("__debug__" : Str)) = false := by decide) (he : starEach (e :: es) X.env = (false, eval e X.env) :: starEach es X.env := by rfl) (hpl : (backTo pos (starEach es X.env)).any (·.1) = false := by rfl) :
    PE X (.Call (.Name x p) (e :: es) [] pos) (tMkV C sp ta) := by
  refine ⟨fun pins s σ H Q I h => ?_⟩
  obtain ⟨nm, q, N, bs, bm, sn, sub, ab, col, dd, k0, k1, k2, k3, k5, hC, hbm⟩ := T.cls
  refine wpAny_Call_Name_kw (ld_glob I hg hm ?_ hdb)
  refine PySem.W.callWith_K (h₀ := X.base) I.ok.mod.kin T.kC (thn (ha.run pos pins s σ H _ I h) fun us s1 ⟨vs, H1, I1, r1, hz, q1⟩ => ⟨I1.kIn, ?_⟩) he hpl
  show wpAny _ _ (call (.ref C) us) _ _ _
  obtain ⟨hp, g, dr, tk, os⟩ := s1
  have hsz : hp.objs.size ≤ hp.objs.size + 1 := Nat.le_succ _
  have hn : H1 (hp.objs.size + 1) = none := I1.hok.fresh hsz
  have hq := q1 (hp.objs.size + 1) hn
  have kk : ∀ b o, hp.get? b = some o → ((hp.push (PySem.W.kdv_tup us)).push (PySem.HandSPX.excO C hp.objs.size)).get? b = some o := fun b o e => Heap.get?_push_of_some _ (Heap.get?_push_of_some _ e)
  have hget : ((hp.push (PySem.W.kdv_tup us)).push (PySem.HandSPX.excO C hp.objs.size)).get? (hp.objs.size + 1) = some (PySem.HandSPX.excO C hp.objs.size) := by heap_get
  have I2 : Inv X pins σ (upd H1 (hp.objs.size + 1) (exo (hp.objs.size + 1) C none)) ⟨(hp.push (PySem.W.kdv_tup us)).push (PySem.HandSPX.excO C hp.objs.size), g, dr, tk, os⟩ :=
    I1.laid (t' := tk) (a := hp.objs.size + 1) (o := exo (hp.objs.size + 1) C none) (h' := (hp.push (PySem.W.kdv_tup us)).push (PySem.HandSPX.excO C hp.objs.size)) kk hsz (exo_ok hget)
  have r2 : Vals (V.ref (hp.objs.size + 1) :: vs) (Value.ref (hp.objs.size + 1) :: us) := .cons rfl r1
  have hl : (Value.ref (hp.objs.size + 1) :: us).length = ps.length := by
    have e := r2.length
    rw [F1.len _ _ _ _ hq] at e
    exact e.symm
  have hus : us.length ≤ sizeLine := by
    rw [← Paired.length r1, sizeLine_eq]
    omega
  refine wpAny_call (PySem.HandSPX.call_own F.excBase_ValueError (fun Y => PySem.HandSPX.refsVE_contains Y bm hbm) (I1.kIn _ _ hC) (PySem.W.looks_findIn I1.kIn iC) (fun self => PySem.W.bind_fn I1.kIn self tI) hus
    (codeAny_mono (F1.run _ X.stack _ _ ⟨Value.ref (hp.objs.size + 1) :: us, []⟩ (Value.ref (hp.objs.size + 1) :: us) _ _ (fun _ _ _ => False) (hr.make C us []) (I2.env0.make C us []) (by
      have := hb _ (Value.ref (hp.objs.size + 1) :: us) I2.kIn (by rw [List.append_nil]; exact hl)
      rwa [List.append_nil] at this) r2 hq) fun r s' hq' => ?_))
  cases r with
  | error er => exact hx pins σ _ _ er s' I2 hq'
  | ok fl =>
    cases fl with
    | ret u =>
      obtain ⟨v, H2, os2, bare2, un2, hok2, rv, ev, q2⟩ := hq'
      subst ev
      obtain ⟨h2, g2, d2, t2, os'⟩ := s'
      exact ⟨rv, .ref (hp.objs.size + 1), H2, I2.call' (ch := []) os2 un2 hok2 bare2 (fun b z => absurd z (by simp)), rfl, q2⟩
    | next => exact False.elim hq'
    | brk => exact False.elim hq'
    | cont => exact False.elim hq'
/-- C(), an own error class without own __init__, as a value -/
theorem pe_excV0 {C : Addr} {bmB : List Value} {B newId initId : String} {x : Str} (F : ExcBaseFacts B newId initId bmB) (q : PySem.W.excIn X.K C bmB newId = true) (gC : X.mg x = some (.ref C)) (kC : PySem.W.keepIn X.K (.ref C) = true) (hg : Gl X x)
    (hdb : (x == ("__debug__" : Str)) = false := by decide) :
    PE X (.Call (.Name x p) [] [] pos) (fun σ H Q => ∀ a, H a = none → Q (.ref a) (upd H a (exo a C none))) := by
  refine ⟨fun pins s σ H Q I h => ?_⟩
  refine wpAny_Call_Name_kw (ld_glob I hg gC ?_ hdb)
  refine PySem.W.callWith_K0 I.kIn kC ?_
  show wpAny _ _ (call (.ref C) []) _ _ _
  obtain ⟨bm, N, nm, qn, bs, hdct, sn, sub, ab, col, dd, k0, k1, k2, k3, k5, mN, hC, hN, hni, T⟩ := exc_obj I.kIn q
  refine wpAny_call_exc_subT F T hC hN hni (fun h' a hm => ?_) (Nat.zero_le _)
  have hn : H a = none := I.hok.gone hm.new
  obtain ⟨t, ht, _, _⟩ := hm.there
  exact ⟨.ref a, upd H a (exo a C none), I.laidN hm.keeps hm.new hn (exo_ok ht), rfl, h a hn⟩
/-- o.f of such an error -/
def tXv (K : PySem.W.Frag) (f : Str) (te : TE) : TE := fun σ H Q => te σ H fun x H1 => ∃ (a C dd : Addr) (fs : List (Str × V)) (v : V), x = .ref a ∧ XfC K C ∧ PySem.W.findIn K (.ref C) f = some none ∧ H1 a = some (exo a C (some dd)) ∧ H1 dd = some (exd dd fs) ∧ fs.lookup f = some v ∧ Q v H1
theorem pe_xv {n : Str} (he : PE X e te) (hb : attributeBase e n X.env (eval e X.env) = eval e X.env := by rfl) : PE X (.Attribute e n pos) (tXv X.K n te) := by
  refine ⟨fun pins s σ H Q I h => ?_⟩
  refine attr_of hb (thn (he.run pins s σ H _ I h) fun u s1 hh => ?_)
  obtain ⟨x, H1, I1, rx, a, C, dd, fs, v, ex, T, hno, ea, ed, l, q⟩ := hh
  subst ex
  obtain rfl : u = Value.ref a := rx
  obtain ⟨t1, ho⟩ := exo_at I1.hok ea
  obtain ⟨mA, hns, hr⟩ := exd_at I1.hok ed
  obtain ⟨od, hod, hl⟩ := lookIn_ns hns
  obtain ⟨u, hu, ru⟩ := RelO.some_of (v := v) (o := mA n) (by rw [← l]; exact hr n)
  have J : PySem.W.InstAt s1.heap a _ C (some od) := ⟨ho, rfl, rfl, hod⟩
  exact HandSPX.exc_get I1.kIn J T.ga T.gg T.exC (PySem.W.findObj_own T.hdC hno rfl (by rw [hl, hu])) (handed_of ru) ⟨v, H1, I1.tok _, ru, q⟩
/-- isinstance(o, c) of such an error -/
def Err (H : Hp) (a C : Addr) : Prop := H a = some (exo a C none) ∨ ∃ (dd : Addr) (fs : List (Str × V)), H a = some (exo a C (some dd)) ∧ H dd = some (exd dd fs)
def rIsV (K : PySem.W.Frag) : List V → Hp → VK → Prop := fun xs H Q => ∃ (a C : Addr) (c : V) (u : Value) (b : Bool), xs = [.ref a, c] ∧ ClsV c u ∧ XiC K C ∧ Err H a C ∧ PySem.W.kitOne K (.ref C) u = some b ∧ Q (.bl b) H
theorem call_isV : CallR X (.builtin "isinstance") (rIsV X.K) := by
  intro pins s σ H xs us Q I r h
  obtain ⟨a, C, c, u, b, rfl, k, T, er, e, q⟩ := h
  cases r with
  | cons rx rr =>
    cases rr with
    | cons rt rr =>
      cases rr
      cases rx
      cases k.eq rt
      rcases er with ea | ⟨dd, fs, ea, ed⟩
      · obtain ⟨t1, ho⟩ := exo_at I.hok ea
        have J : PySem.W.InstAt s.heap a _ C none := ⟨ho, rfl, rfl, trivial⟩
        exact PySem.W.kia_one (PySem.W.kitx_exc T.k0 T.k4 T.k5 T.k6 T.k7 T.k8 T.k9 T.k10) I.kIn J e (fun w => nomatch w) fun tk => ⟨.bl b, H, I.kept (t' := tk) fun _ _ w => w, rfl, q⟩
      · obtain ⟨t1, ho⟩ := exo_at I.hok ea
        obtain ⟨mA, hns, _⟩ := exd_at I.hok ed
        obtain ⟨od, hod, _⟩ := lookIn_ns hns
        have J : PySem.W.InstAt s.heap a _ C (some od) := ⟨ho, rfl, rfl, hod⟩
        exact PySem.W.kia_one (PySem.W.kitx_exc T.k0 T.k4 T.k5 T.k6 T.k7 T.k8 T.k9 T.k10) I.kIn J e (fun w => nomatch w) fun tk => ⟨.bl b, H, I.kept (t' := tk) fun _ _ w => w, rfl, q⟩
/-! ### lists whose items are the same -/
def selfV : V → Bool
  | .ref _ => true
  | v => flatV v
theorem eqAt_self {A : Around} {s : Shared} {x : V} {u v : Value} (ru : RelV x u) (rv : RelV x v) (f : selfV x = true) : SeqAt.EqAt A s u v true := by
  cases x with
  | ref a =>
    cases ru
    cases rv
    exact SeqAt.EqAt.same _
  | non => exact eqAt_V (A := A) (s := s) ru rv rfl rfl
  | bl b => have := eqAt_V (A := A) (s := s) ru rv rfl rfl; rwa [show eqV (.bl b) (.bl b) = true from beq_self_eq_true b] at this
  | int b => have := eqAt_V (A := A) (s := s) ru rv rfl rfl; rwa [show eqV (.int b) (.int b) = true from beq_self_eq_true b] at this
  | str b => have := eqAt_V (A := A) (s := s) ru rv rfl rfl; rwa [show eqV (.str b) (.str b) = true from beq_self_eq_true b] at this
  | _ => exact absurd (show false = true from f) Bool.false_ne_true
theorem eqAt_selfs {A : Around} {s : Shared} : ∀ {xs : List V} {us vs : List Value}, Vals xs us → Vals xs vs → xs.all selfV = true → ∀ j (h1 : j < us.length) (h2 : j < vs.length), SeqAt.EqAt A s us[j] vs[j] true
  | _, _, _, .nil, .nil, _ => fun j h1 => by cases h1
  | x :: xs, u :: us, v :: vs, .cons r1 t1, .cons r2 t2, f => fun j h1 h2 => by
    rw [List.all_cons, Bool.and_eq_true] at f
    cases j with
    | zero => exact eqAt_self r1 r2 f.1
    | succ j => exact eqAt_selfs t1 t2 f.2 j (by simpa using h1) (by simpa using h2)
def rSame (K : PySem.W.Frag) (b : Bool) : R2 := fun x y H Q => ∃ p q xs, x = .ref p ∧ y = .ref q ∧ SqL K H p xs ∧ SqL K H q xs ∧ xs.all selfV = true ∧ Q (.bl b) H
theorem op_eq_same (hu : X.A.units < cLine) : OpR X (compareOp .Eq) (rSame X.K true) := by
  intro pins s σ H x y v u Q I rx ry h
  obtain ⟨p, q, xs, rfl, rfl, hp, hq, f, k⟩ := h
  cases rx
  cases ry
  obtain ⟨its, r1, l1, _⟩ := I.list hp
  obtain ⟨jts, r2, l2, _⟩ := I.list hq
  have n : its.length = jts.length := by rw [← r1.length, ← r2.length]
  refine SeqAt.RcAt.lists (e := fun _ => true) l1.isList l2.isList (by simpa using n) hu (fun j h1 h2 => ?_) _ _ _ _ ?_
  · exact eqAt_selfs r1 r2 f j (by simpa using h1) (by simpa using h2)
  · rw [show ((List.range its.toArray.size).all fun _ => true) = true from List.all_eq_true.mpr fun _ _ => rfl]
    exact ⟨.bl true, H, I, rfl, k⟩
theorem op_ne_same (hu : X.A.units < cLine) : OpR X (compareOp .NotEq) (rSame X.K false) := by
  intro pins s σ H x y v u Q I rx ry h
  obtain ⟨p, q, xs, rfl, rfl, hp, hq, f, k⟩ := h
  cases rx
  cases ry
  obtain ⟨its, r1, l1, _⟩ := I.list hp
  obtain ⟨jts, r2, l2, _⟩ := I.list hq
  have n : its.length = jts.length := by rw [← r1.length, ← r2.length]
  refine SeqAt.RcNeAt.lists (e := fun _ => true) l1.isList l2.isList (by simpa using n) hu (fun j h1 h2 => ?_) _ _ _ _ ?_
  · exact eqAt_selfs r1 r2 f j (by simpa using h1) (by simpa using h2)
  · rw [show ((List.range its.toArray.size).all fun _ => true) = true from List.all_eq_true.mpr fun _ _ => rfl]
    exact ⟨.bl false, H, I, rfl, k⟩
end
end Y
set_option Elab.async false
set_option linter.all false
set_option maxRecDepth 100000
set_option maxHeartbeats 4000000
namespace Y
open PySem L2
abbrev sPen : Stmt := top 18
abbrev sDraw : Stmt := top 19
abbrev sPick : Stmt := top 20
structure TxP (K : PySem.W.Frag) (mg : Str → Option Value) (fDraw : Addr) : Prop where
  int : mg "int" = none
  list : mg "list" = none
  len : mg "len" = none
  gDraw : mg "_law_draw" = some (.ref fDraw)
section
variable {P : Program} {w : World} {K : PySem.W.Frag} {mg : Str → Option Value} {base : Heap}
theorem scPen : FnScope ["_law_script", "_law_fold", "_law_cell"] ["_law_script"] (defScope sPen) := ⟨rfl, rfl, rfl, by decide +kernel, rfl, by decide +kernel, by decide +kernel⟩
theorem ok_pen {f fDraw : Addr} {fd : FuncData} (F : Fun K "_law_pen" "_law_pen" sPen f fd) (T : TxP K mg fDraw) : FnOk P w K mg base CX0 1 f fd ["_law_script"] (spPen K) := by
  refine F.ok scPen (fun vs H Q E h => ?_) (fun cdv A outer s H vs Q E hr h => ?_)
  · obtain ⟨a, ns, rfl, _⟩ := h
    rfl
  · obtain ⟨a, ns, rfl, hS, hlen, k⟩ := h
    refine ⟨_, pss_cons (ps_set (i := 1) scPen.nd rfl (Or.inl rfl) pe_int)
      (pss_cons (ps_for PassesOwn.never rfl (pi_list (pv 0)) (pg_name (i := 2) scPen.nd rfl (Or.inl rfl))
        (pss_one (ps_set (i := 1) scPen.nd rfl (Or.inl rfl) (pe_op op_mod (pe_callTy call_int1 (by rfl) T.int (by decide +kernel) (pa_cons (pe_op op_add (pe_op op_mul (pv 1) pe_int) (pv 2)) pa_nil)) pe_int))))
      (pss_one (ps_ret (pe_disp (pps_cons pe_str (pe_callTy call_list_of (by rfl) T.list (by decide +kernel) (pa_cons (pv 0) pa_nil)) (pps_cons pe_str pe_int (pps_cons pe_str pe_int (pps_cons pe_str pe_int (pps_cons pe_str (pv 1) pps_nil))))) (by rfl) (by rfl) (fun z => by cases z) (by decide))))), ?_⟩
    refine ⟨_, rfl, a, rfl, ⟨_, hS⟩, for_list (K := K) (a := a) (xs := ns.map V.int) (fun i σ H2 => ∃ (f : Int) (v : Option V), σ = [some (.ref a), some (.int f), v] ∧ H2 = H ∧ 0 ≤ f ∧ f < 1000000007)
      ⟨0, none, rfl, rfl, by decide, by decide⟩ (fun i σ H2 _ ⟨_, _, _, e, _⟩ => by rw [e]; exact hS) ?_ ?_⟩
    · rintro i y σ H2 hi ⟨f, v, rfl, rfl, h0, h1⟩
      obtain ⟨z, rfl⟩ : ∃ z, y = V.int z := by
        rw [List.getElem?_map] at hi
        cases e : ns[i]? with
        | none =>
          rw [e] at hi
          cases hi
        | some z =>
          rw [e] at hi
          exact ⟨z, (Option.some.inj hi).symm⟩
      refine ⟨_, rfl, _, _, rfl, rfl, .inl ⟨by omega, by omega⟩, _, rfl, _, _, rfl, rfl, .inl ⟨_, rfl, _, _, rfl, rfl, (by show (0 : Int) < 1000000007; decide), ?_⟩⟩
      exact ⟨_, _, rfl, rfl, Int.emod_nonneg _ (by decide), Int.emod_lt_of_pos _ (by decide)⟩
    · rintro σ H2 ⟨f, v, rfl, rfl, h0, h1⟩
      intro p hp
      refine ⟨_, rfl, a, _, rfl, .inl ((Same.new hp).seq hS), fun l hl => ?_⟩
      have hpl : p ≠ l := fun e => by rw [← e, upd_same] at hl; cases hl
      have hl0 : H2 l = none := by rw [upd_ne (Ne.symm hpl)] at hl; exact hl
      refine ⟨_, rfl, (by rw [upd_ne hpl]; exact upd_same), [(Sum.inr "cells", .ref l), (Sum.inr "at", .int 0), (Sum.inr "digits", .int 0), (Sum.inr "count", .int 0), (Sum.inr "fold", .int f)], rfl, (by show 5 ≤ 15; decide), ?_⟩
      refine k p _ ⟨⟨l, ns, 0, 0, 0, f, ?_, ?_, hlen, by decide, by decide, by decide, by decide, h0, by omega⟩⟩ ?_ hp
      · rw [upd_same]
        exact congrArg (fun z => some (HO.dK z)) pen_merge
      · rw [upd_ne (Ne.symm hpl)]; exact upd_same
      · intro b o e
        rw [upd_ne (ne_of_none e hp), upd_ne (ne_of_none e hl0), upd_ne (ne_of_none e hp)]
        exact e
theorem scDraw : FnScope ["_law_pen_here", "_law_many", "_law_cell", "_law_digit", "_law_blend"] ["_law_pen_here", "_law_many"] (defScope sDraw) := ⟨rfl, rfl, rfl, by decide +kernel, rfl, by decide +kernel, by decide +kernel⟩
theorem ok_draw {f fDraw : Addr} {fd : FuncData} (F : Fun K "_law_draw" "_law_draw" sDraw f fd) (T : TxP K mg fDraw) : FnOk P w K mg base CX0 1 f fd ["_law_pen_here", "_law_many"] spDraw := by
  refine F.ok scDraw (fun vs H Q E h => ?_) (fun cdv A outer s H vs Q E hr h => ?_)
  · obtain ⟨p, m, b, rfl, _⟩ := h
    rfl
  · obtain ⟨p, m, b, rfl, hP, hm0, hm1, k⟩ := h
    have hu := hu_of hr
    obtain ⟨l, ns, a, g, c, f, hp, hl, hlen, ha, hg, hc, hcb, hf0, hf1⟩ := hP.ex
    refine ⟨_, pss_cons (ps_dput hu (pv 0) pe_str (pe_op op_add (pe_dget hu (pv 0) pe_str (fun _ _ => rfl)) pe_int) rfl)
      (C8.pss_cut (ps_if (PW.pt (pw_and (pt_cmpR op_eq (pe_dget hu (pv 0) pe_str (fun _ _ => rfl)) pe_int (nomark _)) (pw_and1 (pt_cmpR op_lt (pe_dget hu (pv 0) pe_str (fun _ _ => rfl)) (pe_callB call_len_seq (by rfl) T.len PySem.boot_len (pa_cons (pe_dget hu (pv 0) pe_str (fun _ _ => rfl)) pa_nil)) (nomark _)))))
        (pss_cons (ps_set (i := 2) scDraw.nd rfl (Or.inl rfl) (pe_ix ix_list (pe_dget hu (pv 0) pe_str (fun _ _ => rfl)) (pe_dget hu (pv 0) pe_str (fun _ _ => rfl)) (fun _ _ => rfl)))
        (pss_cons (ps_dput hu (pv 0) pe_str (pe_op op_add (pe_dget hu (pv 0) pe_str (fun _ _ => rfl)) pe_int) rfl)
        (pss_one (ps_if (pt_cmpR op_ge (pv 2) (pe_op op_pow pe_int pe_int) (nomark _))
          (pss_one (ps_dput hu (pv 0) pe_str (pe_op op_sub (pv 2) (pe_op op_pow pe_int pe_int)) rfl))
          (pss_one (ps_dput hu (pv 0) pe_str (pe_op op_mod (pe_callTy call_int1 (by rfl) T.int (by decide +kernel) (pa_cons (pe_op op_add (pe_op op_mul (pe_dget hu (pv 0) pe_str (fun _ _ => rfl)) pe_int) (pv 2)) pa_nil)) pe_int) rfl))))))
        pss_nil)
      (pss_cons (ps_if (pt_cmpR op_gt (pe_dget hu (pv 0) pe_str (fun _ _ => rfl)) pe_int (nomark _))
        (pss_cons (ps_set (i := 3) scDraw.nd rfl (Or.inl rfl) (pe_op op_mod (pe_callTy call_int1 (by rfl) T.int (by decide +kernel) (pa_cons (pe_dget hu (pv 0) pe_str (fun _ _ => rfl)) pa_nil)) (pv 1)))
        (pss_cons (ps_dput hu (pv 0) pe_str (pe_op op_fdivW (pe_dget hu (pv 0) pe_str (fun _ _ => rfl)) (pv 1)) rfl)
        (pss_one (ps_ret (pv 3)))))
        pss_nil)
      (pss_cons (ps_set (i := 4) scDraw.nd rfl (Or.inl rfl) (pe_op op_add (pe_op op_add (pe_dget hu (pv 0) pe_str (fun _ _ => rfl)) (pe_op op_mul (pe_dget hu (pv 0) pe_str (fun _ _ => rfl)) pe_int)) pe_int))
      (pss_one (ps_ret (pe_op op_mod (pe_op op_fdiv (pe_callTy call_int1 (by rfl) T.int (by decide +kernel) (pa_cons (pe_op op_mod (pe_op op_pow (pv 4) pe_int) pe_int) pa_nil)) pe_int) (pv 1))))))), ?_⟩
    have hlp : l ≠ p := ne_of hl hp (by intro z; cases z)
    have e1 : ∀ {a' g' c' f' : Int}, (upd H p (.dK (penD l a' g' c' f'))) p = some (.dK (penD l a' g' c' f')) := upd_same
    have mk : ∀ {a' g' c' f' : Int}, 0 ≤ a' → 0 ≤ g' → 0 ≤ c' → c' + (b : Int) ≤ 2 ^ 40 → 0 ≤ f' → f' < 2147483587 → Pen (upd H p (.dK (penD l a' g' c' f'))) p b := fun h2 h3 h4 h5 h6 h7 =>
      ⟨_, ns, _, _, _, _, upd_same, by rw [upd_ne hlp]; exact hl, hlen, h2, h3, h4, h5, h6, h7⟩
    refine ⟨_, rfl, _, _, rfl, get_count hp, _, _, rfl, rfl, _, rfl, _, _, rfl, dput_count hp, ?_⟩
    refine ⟨fun σ' H' => ∃ (a' g' f' : Int) (v : Option V), σ' = [some (.ref p), some (.int m), v, none, none] ∧ H' = upd H p (.dK (penD l a' g' (c + 1) f')) ∧ 0 ≤ a' ∧ 0 ≤ g' ∧ 0 ≤ f' ∧ f' < 2147483587, ?_, ?_⟩
    · refine ⟨_, rfl, _, _, rfl, get_digits e1, rfl, _, rfl, ?_⟩
      refine ite2 (fun hd => ?_) (fun hd => ?_)
      · refine ⟨_, rfl, _, _, rfl, get_at e1, _, rfl, _, _, rfl, get_cells e1, l, _, rfl, .inl (.inl (.inl (by rw [upd_ne hlp]; exact hl))), _, _, rfl, rfl, _, rfl, ?_⟩
        refine ite2 (fun hd2 => ?_) (fun hd2 => ?_)
        · have hd3 : a < ((ns.map V.int).length : Int) := of_decide_eq_true hd2
          obtain ⟨y, hy, hy2⟩ := there_int ha hd3
          obtain ⟨z, hz, rfl⟩ := ints_at hy
          refine ⟨_, rfl, _, _, rfl, get_cells e1, _, rfl, _, _, rfl, get_at e1, l, _, a, _, rfl, rfl, .inl (.inl (by rw [upd_ne hlp]; exact hl)), hy2, ?_⟩
          refine ⟨_, rfl, _, _, rfl, get_at e1, _, _, rfl, rfl, _, rfl, _, _, rfl, dput_at, ?_⟩
          refine ⟨_, rfl, _, _, rfl, rfl, ⟨by decide, by decide, by decide⟩, _, _, rfl, rfl, _, rfl, ?_⟩
          refine ite2 (fun hd4 => ?_) (fun hd4 => ?_)
          · have hd5 : (10 : Int) ^ (18 : Int).toNat ≤ z := of_decide_eq_true hd4
            refine ⟨_, rfl, _, _, rfl, rfl, ⟨by decide, by decide, by decide⟩, _, _, rfl, rfl, _, rfl, _, _, rfl, dput_digits, ?_⟩
            exact ⟨_, _, _, _, rfl, rfl, by omega, by omega, hf0, hf1⟩
          · refine ⟨_, rfl, _, _, rfl, get_fold e1, _, _, rfl, rfl, .inl ⟨by omega, by omega⟩, _, rfl, _, _, rfl, rfl, .inl ⟨_, rfl, _, _, rfl, rfl, (by show (0 : Int) < 2147483587; decide), _, rfl, _, _, rfl, dput_fold, ?_⟩⟩
            exact ⟨_, _, _, _, rfl, rfl, by omega, hg, Int.emod_nonneg _ (by decide), Int.emod_lt_of_pos _ (by decide)⟩
        · exact ⟨_, _, _, _, rfl, rfl, ha, hg, hf0, hf1⟩
      · exact ⟨_, _, _, _, rfl, rfl, ha, hg, hf0, hf1⟩
    · rintro σ' H' ⟨a', g', f', v, rfl, rfl, ha', hg', hf0', hf1'⟩
      refine ⟨_, rfl, _, _, rfl, get_digits e1, _, _, rfl, rfl, _, rfl, ?_⟩
      refine ite2 (fun hd => ?_) (fun hd => ?_)
      · refine ⟨_, rfl, _, _, rfl, get_digits e1, .inl ⟨_, rfl, _, rfl, _, _, rfl, rfl, hm0, ?_⟩⟩
        refine ⟨_, rfl, _, _, rfl, get_digits e1, _, rfl, _, _, rfl, rfl, wide_div hm0 (b := 41) (by omega) (by decide) (by decide), _, rfl, _, _, rfl, dput_digits, ?_⟩
        refine ⟨_, rfl, ?_⟩
        exact k _ _ (Int.emod_nonneg _ (by omega)) (Int.emod_lt_of_pos _ hm0) (mk ha' (Int.ediv_nonneg hg' (by omega)) (by omega) (by omega) hf0' hf1') But.upd
      · refine ⟨_, rfl, _, _, rfl, get_fold e1, _, rfl, _, _, rfl, get_count e1, _, _, rfl, rfl, .inl ⟨by omega, by omega⟩, _, _, rfl, rfl, _, _, rfl, rfl, ?_⟩
        refine ⟨_, rfl, _, _, rfl, rfl, ⟨by decide, by decide, by omega⟩, _, _, rfl, rfl, (by show (0 : Int) < 2305843009213693951; decide), .inl ⟨_, rfl, _, _, rfl, rfl, ⟨by decide, by decide⟩, _, rfl, _, _, rfl, rfl, hm0, ?_⟩⟩
        exact k _ _ (Int.emod_nonneg _ (by omega)) (Int.emod_lt_of_pos _ hm0) (mk ha' hg' (by omega) (by omega) hf0' hf1') But.upd
theorem scPick : FnScope ["_law_pen_here", "_law_some"] ["_law_pen_here", "_law_some"] (defScope sPick) := ⟨rfl, rfl, rfl, by decide +kernel, rfl, by decide +kernel, by decide +kernel⟩
theorem ok_pick {f fDraw : Addr} {fd fdDraw : FuncData} (F : Fun K "_law_pick" "_law_pick" sPick f fd) (T : TxP K mg fDraw) (FD : Fun K "_law_draw" "_law_draw" sDraw fDraw fdDraw) (bD : Binds K fdDraw ["_law_pen_here", "_law_many"] []) :
    FnOk P w K mg base CX0 2 f fd ["_law_pen_here", "_law_some"] (spPick K) := by
  have GD : FnOk P w K mg base CX0 1 fDraw fdDraw ["_law_pen_here", "_law_many"] spDraw := ok_draw FD T
  refine F.ok scPick (fun vs H Q E h => ?_) (fun cdv A outer s H vs Q E hr h => ?_)
  · obtain ⟨p, l, xs, b, rfl, _⟩ := h
    rfl
  · obtain ⟨p, l, xs, b, rfl, hP, hl, hne, hz, k⟩ := h
    refine ⟨_, pss_one (ps_ret (pe_ix (IxR.or ix_list ix_tup) (pv 1) (pe_call GD hr (by rfl) T.gDraw FD.kp bD .nil pass0 (pa_cons (pv 0) (pa_cons (pe_callB call_len_seq (by rfl) T.len PySem.boot_len (pa_cons (pv 1) pa_nil)) pa_nil))) (fun _ _ => rfl))), ?_⟩
    have hpos := List.length_pos_iff.mpr hne
    obtain ⟨kvs, hpd⟩ := hP.there
    refine ⟨_, rfl, _, rfl, _, rfl, l, xs, rfl, hl, p, _, b, rfl, hP, by omega, by omega, fun n H' h0 h1 hP' hB => ?_⟩
    obtain ⟨y, hy, hy2⟩ := there_int h0 h1
    rcases hl with hl | hl
    · exact .inl ⟨l, xs, n, y, rfl, rfl, hB.seq hpd hl, hy2, k y _ _ hy hP' hB⟩
    · exact .inr ⟨l, xs, n, y, rfl, rfl, hB.seqT hpd hl, hy2, k y _ _ hy hP' hB⟩
end
end Y
set_option Elab.async false
set_option linter.all false
set_option maxRecDepth 100000
set_option maxHeartbeats 4000000
namespace Y
open PySem L2
abbrev sKinds : Stmt := top 21
abbrev sLaw : Stmt := top 22
abbrev sI0 : Stmt := inClass (top 2) 0
abbrev sI1 : Stmt := inClass (top 3) 0
abbrev sI2 : Stmt := inClass (top 4) 0
abbrev sI3 : Stmt := inClass (top 5) 0
abbrev sI4 : Stmt := inClass (top 6) 0
abbrev sI5 : Stmt := inClass (top 7) 0
abbrev sI6 : Stmt := inClass (top 8) 0
abbrev sI7 : Stmt := inClass (top 9) 0
abbrev sI8 : Stmt := inClass (top 10) 0
abbrev sI9 : Stmt := inClass (top 11) 0
abbrev sI10 : Stmt := inClass (top 12) 0
abbrev sI11 : Stmt := inClass (top 13) 0
abbrev sI12 : Stmt := inClass (top 14) 0
theorem gname_go {i : Nat} {v : V} {σ : L2.St} {H : Hp} {Q : L2.St → Hp → Prop} (h : Q (σ.set i (some v)) H) : gName i v σ H Q := h
/-! ### what a first method does: the fields are kept -/
def sp1 (C : Addr) (f : Str) : Sp := fun vs H Q _ => ∃ (a : Addr) (v : V), vs = [.ref a, v] ∧ H a = some (exo a C none) ∧
  ∀ dx H', H dx = none → (∀ b o, b ≠ a → H b = some o → H' b = some o) → H' a = some (exo a C (some dx)) → H' dx = some (exd dx [(f, v)]) → Q .non H'
def sp2 (C : Addr) (f g : Str) : Sp := fun vs H Q _ => ∃ (a : Addr) (v w : V), vs = [.ref a, v, w] ∧ H a = some (exo a C none) ∧
  ∀ dx H', H dx = none → (∀ b o, b ≠ a → H b = some o → H' b = some o) → H' a = some (exo a C (some dx)) → H' dx = some (exd dx [(g, w), (f, v)]) → Q .non H'
/-- an error as a value, its fields fs -/
def EV (H : Hp) (a C : Addr) (fs : List (Str × V)) : Prop := ∃ d, H a = some (exo a C (some d)) ∧ H d = some (exd d fs)
theorem EV.same {H H' : Hp} {a C : Addr} {fs : List (Str × V)} (e : EV H a C fs) (s : Same H H') : EV H' a C fs := by
  obtain ⟨d, h1, h2⟩ := e
  exact ⟨d, s _ _ h1, s _ _ h2⟩
theorem EV.err {H : Hp} {a C : Addr} {fs : List (Str × V)} (e : EV H a C fs) : Err H a C := by
  obtain ⟨d, h1, h2⟩ := e
  exact .inr ⟨d, fs, h1, h2⟩
theorem Err.same {H H' : Hp} {a C : Addr} (e : Err H a C) (s : Same H H') : Err H' a C := by
  rcases e with h | ⟨d, fs, h1, h2⟩
  · exact .inl (s _ _ h)
  · exact .inr ⟨d, fs, s _ _ h1, s _ _ h2⟩
theorem mkv1 {C : Addr} {f : Str} {v : V} {H : Hp} {Q : VK} (h : ∀ (a : Addr) (H' : Hp), Same H H' → EV H' a C [(f, v)] → Q (.ref a) H') :
    ([v] : List V).length ≤ 1000 ∧ ∀ a, H a = none → sp1 C f (.ref a :: [v]) (upd H a (exo a C none)) (fun u H2 => u = .non ∧ Q (.ref a) H2) (fun _ _ _ => False) :=
  ⟨by show 1 ≤ 1000; decide, fun a ha => ⟨a, v, rfl, upd_same, fun dx H' _ hs ea ed => ⟨rfl, h a H' (fun b o e => hs b o (ne_of_none e ha) (by rw [upd_ne (ne_of_none e ha)]; exact e)) ⟨dx, ea, ed⟩⟩⟩⟩
theorem mkv2 {C : Addr} {f g : Str} {v w : V} {H : Hp} {Q : VK} (h : ∀ (a : Addr) (H' : Hp), Same H H' → EV H' a C [(g, w), (f, v)] → Q (.ref a) H') :
    ([v, w] : List V).length ≤ 1000 ∧ ∀ a, H a = none → sp2 C f g (.ref a :: [v, w]) (upd H a (exo a C none)) (fun u H2 => u = .non ∧ Q (.ref a) H2) (fun _ _ _ => False) :=
  ⟨by show 2 ≤ 1000; decide, fun a ha => ⟨a, v, w, rfl, upd_same, fun dx H' _ hs ea ed => ⟨rfl, h a H' (fun b o e => hs b o (ne_of_none e ha) (by rw [upd_ne (ne_of_none e ha)]; exact e)) ⟨dx, ea, ed⟩⟩⟩⟩
theorem xv_go {K : PySem.W.Frag} {H : Hp} {a C : Addr} {fs : List (Str × V)} {f : Str} {v : V} {Q : VK} (e : EV H a C fs) (T : XfC K C) (n : PySem.W.findIn K (.ref C) f = some none) (l : fs.lookup f = some v) (q : Q v H) :
    ∃ (a' C' dd : Addr) (fs' : List (Str × V)) (v' : V), V.ref a = .ref a' ∧ XfC K C' ∧ PySem.W.findIn K (.ref C') f = some none ∧ H a' = some (exo a' C' (some dd)) ∧ H dd = some (exd dd fs') ∧ fs'.lookup f = some v' ∧ Q v' H := by
  obtain ⟨d, h1, h2⟩ := e
  exact ⟨a, C, d, fs, v, rfl, T, n, h1, h2, l, q⟩
section
variable {P : Program} {w : World} {K : PySem.W.Frag} {mg : Str → Option Value} {base : Heap}
theorem scI0 : FnScope ["self", "column"] ["self", "column"] (defScope sI0) := ⟨rfl, rfl, rfl, by decide +kernel, rfl, by decide +kernel, by decide +kernel⟩
theorem ok_i0 {C f : Addr} {fd : FuncData} (F : Fun K "__init__" "BadText.__init__" sI0 f fd) (o : OexC K C) (n : PySem.W.findIn K (.ref C) "column" = some none) : FnOk P w K mg base CX0 1 f fd ["self", "column"] (sp1 C "column") := by
  refine F.ok scI0 (fun vs H Q E h => ?_) (fun cdv A outer s H vs Q E hr h => ?_)
  · obtain ⟨a, v, rfl, _⟩ := h
    rfl
  · obtain ⟨a, v, rfl, ha, k⟩ := h
    refine ⟨_, pss_one (ps_ost (pv 0) (pv 1)), ?_⟩
    exact ⟨_, rfl, _, rfl, a, C, rfl, o, n, .inl ⟨ha, fun dx nn ne => k dx _ nn (fun b u hb e => by rw [upd_ne hb, upd_ne (ne_of_none e nn)]; exact e) upd_same (by rw [upd_ne ne]; exact upd_same)⟩⟩
theorem scI1 : FnScope ["self", "line", "column"] ["self", "line", "column"] (defScope sI1) := ⟨rfl, rfl, rfl, by decide +kernel, rfl, by decide +kernel, by decide +kernel⟩
theorem ok_i1 {C f : Addr} {fd : FuncData} (F : Fun K "__init__" "BadLine.__init__" sI1 f fd) (o : OexC K C) (n : PySem.W.findIn K (.ref C) "line" = some none) (n2 : PySem.W.findIn K (.ref C) "column" = some none) : FnOk P w K mg base CX0 1 f fd ["self", "line", "column"] (sp2 C "line" "column") := by
  refine F.ok scI1 (fun vs H Q E h => ?_) (fun cdv A outer s H vs Q E hr h => ?_)
  · obtain ⟨a, v, v2, rfl, _⟩ := h
    rfl
  · obtain ⟨a, v, v2, rfl, ha, k⟩ := h
    refine ⟨_, pss_cons (ps_ost (pv 0) (pv 1)) (pss_one (ps_ost (pv 0) (pv 2))), ?_⟩
    refine ⟨_, rfl, _, rfl, a, C, rfl, o, n, .inl ⟨ha, fun dx nn ne => ?_⟩⟩
    refine ⟨_, rfl, _, rfl, a, C, rfl, o, n2, .inr ⟨dx, _, upd_same, by rw [upd_ne ne]; exact upd_same, by show 1 ≤ 900; decide, ?_⟩⟩
    exact k dx _ nn (fun b u hb e => by rw [upd_ne (ne_of_none e nn), upd_ne hb, upd_ne (ne_of_none e nn)]; exact e) (by rw [upd_ne (Ne.symm ne)]; exact upd_same) upd_same
theorem scI2 : FnScope ["self", "what", "number"] ["self", "what", "number"] (defScope sI2) := ⟨rfl, rfl, rfl, by decide +kernel, rfl, by decide +kernel, by decide +kernel⟩
theorem ok_i2 {C f : Addr} {fd : FuncData} (F : Fun K "__init__" "BadNumber.__init__" sI2 f fd) (o : OexC K C) (n : PySem.W.findIn K (.ref C) "what" = some none) (n2 : PySem.W.findIn K (.ref C) "number" = some none) : FnOk P w K mg base CX0 1 f fd ["self", "what", "number"] (sp2 C "what" "number") := by
  refine F.ok scI2 (fun vs H Q E h => ?_) (fun cdv A outer s H vs Q E hr h => ?_)
  · obtain ⟨a, v, v2, rfl, _⟩ := h
    rfl
  · obtain ⟨a, v, v2, rfl, ha, k⟩ := h
    refine ⟨_, pss_cons (ps_ost (pv 0) (pv 1)) (pss_one (ps_ost (pv 0) (pv 2))), ?_⟩
    refine ⟨_, rfl, _, rfl, a, C, rfl, o, n, .inl ⟨ha, fun dx nn ne => ?_⟩⟩
    refine ⟨_, rfl, _, rfl, a, C, rfl, o, n2, .inr ⟨dx, _, upd_same, by rw [upd_ne ne]; exact upd_same, by show 1 ≤ 900; decide, ?_⟩⟩
    exact k dx _ nn (fun b u hb e => by rw [upd_ne (ne_of_none e nn), upd_ne hb, upd_ne (ne_of_none e nn)]; exact e) (by rw [upd_ne (Ne.symm ne)]; exact upd_same) upd_same
theorem scI3 : FnScope ["self", "row"] ["self", "row"] (defScope sI3) := ⟨rfl, rfl, rfl, by decide +kernel, rfl, by decide +kernel, by decide +kernel⟩
theorem ok_i3 {C f : Addr} {fd : FuncData} (F : Fun K "__init__" "BadRow.__init__" sI3 f fd) (o : OexC K C) (n : PySem.W.findIn K (.ref C) "row" = some none) : FnOk P w K mg base CX0 1 f fd ["self", "row"] (sp1 C "row") := by
  refine F.ok scI3 (fun vs H Q E h => ?_) (fun cdv A outer s H vs Q E hr h => ?_)
  · obtain ⟨a, v, rfl, _⟩ := h
    rfl
  · obtain ⟨a, v, rfl, ha, k⟩ := h
    refine ⟨_, pss_one (ps_ost (pv 0) (pv 1)), ?_⟩
    exact ⟨_, rfl, _, rfl, a, C, rfl, o, n, .inl ⟨ha, fun dx nn ne => k dx _ nn (fun b u hb e => by rw [upd_ne hb, upd_ne (ne_of_none e nn)]; exact e) upd_same (by rw [upd_ne ne]; exact upd_same)⟩⟩
theorem scI4 : FnScope ["self", "tie"] ["self", "tie"] (defScope sI4) := ⟨rfl, rfl, rfl, by decide +kernel, rfl, by decide +kernel, by decide +kernel⟩
theorem ok_i4 {C f : Addr} {fd : FuncData} (F : Fun K "__init__" "BadTie.__init__" sI4 f fd) (o : OexC K C) (n : PySem.W.findIn K (.ref C) "tie" = some none) : FnOk P w K mg base CX0 1 f fd ["self", "tie"] (sp1 C "tie") := by
  refine F.ok scI4 (fun vs H Q E h => ?_) (fun cdv A outer s H vs Q E hr h => ?_)
  · obtain ⟨a, v, rfl, _⟩ := h
    rfl
  · obtain ⟨a, v, rfl, ha, k⟩ := h
    refine ⟨_, pss_one (ps_ost (pv 0) (pv 1)), ?_⟩
    exact ⟨_, rfl, _, rfl, a, C, rfl, o, n, .inl ⟨ha, fun dx nn ne => k dx _ nn (fun b u hb e => by rw [upd_ne hb, upd_ne (ne_of_none e nn)]; exact e) upd_same (by rw [upd_ne ne]; exact upd_same)⟩⟩
theorem scI5 : FnScope ["self", "index"] ["self", "index"] (defScope sI5) := ⟨rfl, rfl, rfl, by decide +kernel, rfl, by decide +kernel, by decide +kernel⟩
theorem ok_i5 {C f : Addr} {fd : FuncData} (F : Fun K "__init__" "BadRing.__init__" sI5 f fd) (o : OexC K C) (n : PySem.W.findIn K (.ref C) "index" = some none) : FnOk P w K mg base CX0 1 f fd ["self", "index"] (sp1 C "index") := by
  refine F.ok scI5 (fun vs H Q E h => ?_) (fun cdv A outer s H vs Q E hr h => ?_)
  · obtain ⟨a, v, rfl, _⟩ := h
    rfl
  · obtain ⟨a, v, rfl, ha, k⟩ := h
    refine ⟨_, pss_one (ps_ost (pv 0) (pv 1)), ?_⟩
    exact ⟨_, rfl, _, rfl, a, C, rfl, o, n, .inl ⟨ha, fun dx nn ne => k dx _ nn (fun b u hb e => by rw [upd_ne hb, upd_ne (ne_of_none e nn)]; exact e) upd_same (by rw [upd_ne ne]; exact upd_same)⟩⟩
theorem scI6 : FnScope ["self", "index"] ["self", "index"] (defScope sI6) := ⟨rfl, rfl, rfl, by decide +kernel, rfl, by decide +kernel, by decide +kernel⟩
theorem ok_i6 {C f : Addr} {fd : FuncData} (F : Fun K "__init__" "BadMove.__init__" sI6 f fd) (o : OexC K C) (n : PySem.W.findIn K (.ref C) "index" = some none) : FnOk P w K mg base CX0 1 f fd ["self", "index"] (sp1 C "index") := by
  refine F.ok scI6 (fun vs H Q E h => ?_) (fun cdv A outer s H vs Q E hr h => ?_)
  · obtain ⟨a, v, rfl, _⟩ := h
    rfl
  · obtain ⟨a, v, rfl, ha, k⟩ := h
    refine ⟨_, pss_one (ps_ost (pv 0) (pv 1)), ?_⟩
    exact ⟨_, rfl, _, rfl, a, C, rfl, o, n, .inl ⟨ha, fun dx nn ne => k dx _ nn (fun b u hb e => by rw [upd_ne hb, upd_ne (ne_of_none e nn)]; exact e) upd_same (by rw [upd_ne ne]; exact upd_same)⟩⟩
theorem scI7 : FnScope ["self", "name"] ["self", "name"] (defScope sI7) := ⟨rfl, rfl, rfl, by decide +kernel, rfl, by decide +kernel, by decide +kernel⟩
theorem ok_i7 {C f : Addr} {fd : FuncData} (F : Fun K "__init__" "BadName.__init__" sI7 f fd) (o : OexC K C) (n : PySem.W.findIn K (.ref C) "name" = some none) : FnOk P w K mg base CX0 1 f fd ["self", "name"] (sp1 C "name") := by
  refine F.ok scI7 (fun vs H Q E h => ?_) (fun cdv A outer s H vs Q E hr h => ?_)
  · obtain ⟨a, v, rfl, _⟩ := h
    rfl
  · obtain ⟨a, v, rfl, ha, k⟩ := h
    refine ⟨_, pss_one (ps_ost (pv 0) (pv 1)), ?_⟩
    exact ⟨_, rfl, _, rfl, a, C, rfl, o, n, .inl ⟨ha, fun dx nn ne => k dx _ nn (fun b u hb e => by rw [upd_ne hb, upd_ne (ne_of_none e nn)]; exact e) upd_same (by rw [upd_ne ne]; exact upd_same)⟩⟩
theorem scI8 : FnScope ["self", "name"] ["self", "name"] (defScope sI8) := ⟨rfl, rfl, rfl, by decide +kernel, rfl, by decide +kernel, by decide +kernel⟩
theorem ok_i8 {C f : Addr} {fd : FuncData} (F : Fun K "__init__" "NoName.__init__" sI8 f fd) (o : OexC K C) (n : PySem.W.findIn K (.ref C) "name" = some none) : FnOk P w K mg base CX0 1 f fd ["self", "name"] (sp1 C "name") := by
  refine F.ok scI8 (fun vs H Q E h => ?_) (fun cdv A outer s H vs Q E hr h => ?_)
  · obtain ⟨a, v, rfl, _⟩ := h
    rfl
  · obtain ⟨a, v, rfl, ha, k⟩ := h
    refine ⟨_, pss_one (ps_ost (pv 0) (pv 1)), ?_⟩
    exact ⟨_, rfl, _, rfl, a, C, rfl, o, n, .inl ⟨ha, fun dx nn ne => k dx _ nn (fun b u hb e => by rw [upd_ne hb, upd_ne (ne_of_none e nn)]; exact e) upd_same (by rw [upd_ne ne]; exact upd_same)⟩⟩
theorem scI9 : FnScope ["self", "name"] ["self", "name"] (defScope sI9) := ⟨rfl, rfl, rfl, by decide +kernel, rfl, by decide +kernel, by decide +kernel⟩
theorem ok_i9 {C f : Addr} {fd : FuncData} (F : Fun K "__init__" "TakenName.__init__" sI9 f fd) (o : OexC K C) (n : PySem.W.findIn K (.ref C) "name" = some none) : FnOk P w K mg base CX0 1 f fd ["self", "name"] (sp1 C "name") := by
  refine F.ok scI9 (fun vs H Q E h => ?_) (fun cdv A outer s H vs Q E hr h => ?_)
  · obtain ⟨a, v, rfl, _⟩ := h
    rfl
  · obtain ⟨a, v, rfl, ha, k⟩ := h
    refine ⟨_, pss_one (ps_ost (pv 0) (pv 1)), ?_⟩
    exact ⟨_, rfl, _, rfl, a, C, rfl, o, n, .inl ⟨ha, fun dx nn ne => k dx _ nn (fun b u hb e => by rw [upd_ne hb, upd_ne (ne_of_none e nn)]; exact e) upd_same (by rw [upd_ne ne]; exact upd_same)⟩⟩
theorem scI10 : FnScope ["self", "what"] ["self", "what"] (defScope sI10) := ⟨rfl, rfl, rfl, by decide +kernel, rfl, by decide +kernel, by decide +kernel⟩
theorem ok_i10 {C f : Addr} {fd : FuncData} (F : Fun K "__init__" "Unlike.__init__" sI10 f fd) (o : OexC K C) (n : PySem.W.findIn K (.ref C) "what" = some none) : FnOk P w K mg base CX0 1 f fd ["self", "what"] (sp1 C "what") := by
  refine F.ok scI10 (fun vs H Q E h => ?_) (fun cdv A outer s H vs Q E hr h => ?_)
  · obtain ⟨a, v, rfl, _⟩ := h
    rfl
  · obtain ⟨a, v, rfl, ha, k⟩ := h
    refine ⟨_, pss_one (ps_ost (pv 0) (pv 1)), ?_⟩
    exact ⟨_, rfl, _, rfl, a, C, rfl, o, n, .inl ⟨ha, fun dx nn ne => k dx _ nn (fun b u hb e => by rw [upd_ne hb, upd_ne (ne_of_none e nn)]; exact e) upd_same (by rw [upd_ne ne]; exact upd_same)⟩⟩
theorem scI11 : FnScope ["self", "most"] ["self", "most"] (defScope sI11) := ⟨rfl, rfl, rfl, by decide +kernel, rfl, by decide +kernel, by decide +kernel⟩
theorem ok_i11 {C f : Addr} {fd : FuncData} (F : Fun K "__init__" "TooMany.__init__" sI11 f fd) (o : OexC K C) (n : PySem.W.findIn K (.ref C) "most" = some none) : FnOk P w K mg base CX0 1 f fd ["self", "most"] (sp1 C "most") := by
  refine F.ok scI11 (fun vs H Q E h => ?_) (fun cdv A outer s H vs Q E hr h => ?_)
  · obtain ⟨a, v, rfl, _⟩ := h
    rfl
  · obtain ⟨a, v, rfl, ha, k⟩ := h
    refine ⟨_, pss_one (ps_ost (pv 0) (pv 1)), ?_⟩
    exact ⟨_, rfl, _, rfl, a, C, rfl, o, n, .inl ⟨ha, fun dx nn ne => k dx _ nn (fun b u hb e => by rw [upd_ne hb, upd_ne (ne_of_none e nn)]; exact e) upd_same (by rw [upd_ne ne]; exact upd_same)⟩⟩
theorem scI12 : FnScope ["self", "promise", "witness"] ["self", "promise", "witness"] (defScope sI12) := ⟨rfl, rfl, rfl, by decide +kernel, rfl, by decide +kernel, by decide +kernel⟩
theorem ok_i12 {C f : Addr} {fd : FuncData} (F : Fun K "__init__" "NotKept.__init__" sI12 f fd) (o : OexC K C) (n : PySem.W.findIn K (.ref C) "promise" = some none) (n2 : PySem.W.findIn K (.ref C) "witness" = some none) : FnOk P w K mg base CX0 1 f fd ["self", "promise", "witness"] (sp2 C "promise" "witness") := by
  refine F.ok scI12 (fun vs H Q E h => ?_) (fun cdv A outer s H vs Q E hr h => ?_)
  · obtain ⟨a, v, v2, rfl, _⟩ := h
    rfl
  · obtain ⟨a, v, v2, rfl, ha, k⟩ := h
    refine ⟨_, pss_cons (ps_ost (pv 0) (pv 1)) (pss_one (ps_ost (pv 0) (pv 2))), ?_⟩
    refine ⟨_, rfl, _, rfl, a, C, rfl, o, n, .inl ⟨ha, fun dx nn ne => ?_⟩⟩
    refine ⟨_, rfl, _, rfl, a, C, rfl, o, n2, .inr ⟨dx, _, upd_same, by rw [upd_ne ne]; exact upd_same, by show 1 ≤ 900; decide, ?_⟩⟩
    exact k dx _ nn (fun b u hb e => by rw [upd_ne (ne_of_none e nn), upd_ne hb, upd_ne (ne_of_none e nn)]; exact e) (by rw [upd_ne (Ne.symm ne)]; exact upd_same) upd_same
end
/-! ### of which kinds an error is -/
/-- C is the i-th class of Cs (i = 15: the one above them all) -/
def Kd (K : PySem.W.Frag) (CY : Addr) (Cs : Nat → Addr) (C : Addr) (i : Nat) : Prop := XiC K C ∧ PySem.W.kitOne K (.ref C) (.ref CY) = some true ∧ PySem.W.kitOne K (.ref C) (.type "ValueError") = some true ∧
  ∀ j, j < 15 → PySem.W.kitOne K (.ref C) (.ref (Cs j)) = some (decide (j = i))
def spKinds (K : PySem.W.Frag) (CY : Addr) (Cs : Nat → Addr) : Sp := fun vs H Q _ => ∃ (a C : Addr) (i : Nat), vs = [.ref a] ∧ Err H a C ∧ Kd K CY Cs C i ∧
  ∀ l H', Same H H' → H' l = some (.lst ((List.range 15).map fun k => V.bl (decide (k = i)))) → Q (.ref l) H'
structure T0 (K : PySem.W.Frag) (mg : Str → Option Value) (CY : Addr) (Cs : Nat → Addr) : Prop where
  isi : mg "isinstance" = none
  range : mg "range" = none
  ve : mg "ValueError" = none
  gY : mg "YardError" = some (.ref CY)
  g0 : mg "BadText" = some (.ref (Cs 0))
  g1 : mg "BadLine" = some (.ref (Cs 1))
  g2 : mg "BadNumber" = some (.ref (Cs 2))
  g3 : mg "BadRow" = some (.ref (Cs 3))
  g4 : mg "BadTie" = some (.ref (Cs 4))
  g5 : mg "BadRing" = some (.ref (Cs 5))
  g6 : mg "BadMove" = some (.ref (Cs 6))
  g7 : mg "BadName" = some (.ref (Cs 7))
  g8 : mg "NoName" = some (.ref (Cs 8))
  g9 : mg "TakenName" = some (.ref (Cs 9))
  g10 : mg "Unlike" = some (.ref (Cs 10))
  g11 : mg "TooMany" = some (.ref (Cs 11))
  g12 : mg "NotKept" = some (.ref (Cs 12))
  g13 : mg "NothingToUndo" = some (.ref (Cs 13))
  g14 : mg "NothingToRedo" = some (.ref (Cs 14))
  kd : ∀ i, i < 15 → Kd K CY Cs (Cs i) i
  kY : Kd K CY Cs CY 15
  oex : ∀ i, i < 13 → OexC K (Cs i)
  xf : ∀ i, i < 13 → XfC K (Cs i)
  eY : PySem.W.excIn K CY [.type "ValueError", .type "Exception", .type "BaseException", .type "object"] "ValueError.__new__" = true
  kpY : PySem.W.keepIn K (.ref CY) = true
  e13 : PySem.W.excIn K (Cs 13) [.type "ValueError", .type "Exception", .type "BaseException", .type "object"] "ValueError.__new__" = true
  kp13 : PySem.W.keepIn K (.ref (Cs 13)) = true
  e14 : PySem.W.excIn K (Cs 14) [.type "ValueError", .type "Exception", .type "BaseException", .type "object"] "ValueError.__new__" = true
  kp14 : PySem.W.keepIn K (.ref (Cs 14)) = true
  n0 : PySem.W.findIn K (.ref (Cs 0)) "column" = some none
  n1a : PySem.W.findIn K (.ref (Cs 1)) "line" = some none
  n1b : PySem.W.findIn K (.ref (Cs 1)) "column" = some none
  n2a : PySem.W.findIn K (.ref (Cs 2)) "what" = some none
  n2b : PySem.W.findIn K (.ref (Cs 2)) "number" = some none
  n3 : PySem.W.findIn K (.ref (Cs 3)) "row" = some none
  n4 : PySem.W.findIn K (.ref (Cs 4)) "tie" = some none
  n5 : PySem.W.findIn K (.ref (Cs 5)) "index" = some none
  n6 : PySem.W.findIn K (.ref (Cs 6)) "index" = some none
  n7 : PySem.W.findIn K (.ref (Cs 7)) "name" = some none
  n8 : PySem.W.findIn K (.ref (Cs 8)) "name" = some none
  n9 : PySem.W.findIn K (.ref (Cs 9)) "name" = some none
  n10 : PySem.W.findIn K (.ref (Cs 10)) "what" = some none
  n11 : PySem.W.findIn K (.ref (Cs 11)) "most" = some none
  n12a : PySem.W.findIn K (.ref (Cs 12)) "promise" = some none
  n12b : PySem.W.findIn K (.ref (Cs 12)) "witness" = some none
section
variable {P : Program} {w : World} {K : PySem.W.Frag} {mg : Str → Option Value} {base : Heap} {CY : Addr} {Cs : Nat → Addr}
theorem scKinds : FnScope ["_law_error", "_law_found"] ["_law_error"] (defScope sKinds) := ⟨rfl, rfl, rfl, by decide +kernel, rfl, by decide +kernel, by decide +kernel⟩
/-- one question -/
theorem ask {H : Hp} {a C c : Addr} {b : Bool} {Q : VK} (x : XiC K C) (e : Err H a C) (k : PySem.W.kitOne K (.ref C) (.ref c) = some b) (q : Q (.bl b) H) : rIsV K [.ref a, .ref c] H Q :=
  ⟨a, C, _, _, b, rfl, ClsV.own c, x, e, k, q⟩
theorem ok_kinds {f : Addr} {fd : FuncData} (F : Fun K "_law_kinds" "_law_kinds" sKinds f fd) (T : T0 K mg CY Cs) : FnOk P w K mg base CX0 1 f fd ["_law_error"] (spKinds K CY Cs) := by
  refine F.ok scKinds (fun vs H Q E h => ?_) (fun cdv A outer s H vs Q E hr h => ?_)
  · obtain ⟨a, C, i, rfl, _⟩ := h
    rfl
  · obtain ⟨a, C, i, rfl, er, ⟨xi, kY, kV, kj⟩, k⟩ := h
    have q : ∀ j, j < 15 → PySem.W.kitOne K (.ref C) (.ref (Cs j)) = some (decide (j = i)) := kj
    refine ⟨_, pss_cons (ps_set (i := 1) scKinds.nd rfl (Or.inl rfl) (pe_lst (pa_cons (pe_callB call_isV (by rfl) T.isi (by decide +kernel) (pa_cons (pv 0) (pa_cons (pgR T.g0) pa_nil))) (pa_cons (pe_callB call_isV (by rfl) T.isi (by decide +kernel) (pa_cons (pv 0) (pa_cons (pgR T.g1) pa_nil))) (pa_cons (pe_callB call_isV (by rfl) T.isi (by decide +kernel) (pa_cons (pv 0) (pa_cons (pgR T.g2) pa_nil))) pa_nil)))))
      (pss_cons (ps_set (i := 1) scKinds.nd rfl (Or.inl rfl) (pe_op op_cat (pv 1) (pe_lst (pa_cons (pe_callB call_isV (by rfl) T.isi (by decide +kernel) (pa_cons (pv 0) (pa_cons (pgR T.g3) pa_nil))) (pa_cons (pe_callB call_isV (by rfl) T.isi (by decide +kernel) (pa_cons (pv 0) (pa_cons (pgR T.g4) pa_nil))) (pa_cons (pe_callB call_isV (by rfl) T.isi (by decide +kernel) (pa_cons (pv 0) (pa_cons (pgR T.g5) pa_nil))) pa_nil))))))
      (pss_cons (ps_set (i := 1) scKinds.nd rfl (Or.inl rfl) (pe_op op_cat (pv 1) (pe_lst (pa_cons (pe_callB call_isV (by rfl) T.isi (by decide +kernel) (pa_cons (pv 0) (pa_cons (pgR T.g6) pa_nil))) (pa_cons (pe_callB call_isV (by rfl) T.isi (by decide +kernel) (pa_cons (pv 0) (pa_cons (pgR T.g7) pa_nil))) (pa_cons (pe_callB call_isV (by rfl) T.isi (by decide +kernel) (pa_cons (pv 0) (pa_cons (pgR T.g8) pa_nil))) pa_nil))))))
      (pss_cons (ps_set (i := 1) scKinds.nd rfl (Or.inl rfl) (pe_op op_cat (pv 1) (pe_lst (pa_cons (pe_callB call_isV (by rfl) T.isi (by decide +kernel) (pa_cons (pv 0) (pa_cons (pgR T.g9) pa_nil))) (pa_cons (pe_callB call_isV (by rfl) T.isi (by decide +kernel) (pa_cons (pv 0) (pa_cons (pgR T.g10) pa_nil))) (pa_cons (pe_callB call_isV (by rfl) T.isi (by decide +kernel) (pa_cons (pv 0) (pa_cons (pgR T.g11) pa_nil))) pa_nil))))))
      (pss_cons (ps_set (i := 1) scKinds.nd rfl (Or.inl rfl) (pe_op op_cat (pv 1) (pe_lst (pa_cons (pe_callB call_isV (by rfl) T.isi (by decide +kernel) (pa_cons (pv 0) (pa_cons (pgR T.g12) pa_nil))) (pa_cons (pe_callB call_isV (by rfl) T.isi (by decide +kernel) (pa_cons (pv 0) (pa_cons (pgR T.g13) pa_nil))) (pa_cons (pe_callB call_isV (by rfl) T.isi (by decide +kernel) (pa_cons (pv 0) (pa_cons (pgR T.g14) pa_nil))) pa_nil))))))
      (pss_one (ps_ret (pe_ifExp (PW.pt (pw_and (pt_val (pe_callB call_isV (by rfl) T.isi (by decide +kernel) (pa_cons (pv 0) (pa_cons (pgR T.gY) pa_nil)))) (pw_and1 (pt_val (pe_callB call_isV (by rfl) T.isi (by decide +kernel) (pa_cons (pv 0) (pa_cons (pbT (n := "ValueError") T.ve (by decide +kernel)) pa_nil))))))) (pv 1) (pe_lst pa_nil)))))))), ?_⟩
    have r0 : Err H a C := er
    refine ⟨_, rfl, a, C, _, _, _, rfl, ClsV.own _, xi, r0, q 0 (by decide), ?_⟩
    refine ⟨_, rfl, a, C, _, _, _, rfl, ClsV.own _, xi, r0, q 1 (by decide), ?_⟩
    refine ⟨_, rfl, a, C, _, _, _, rfl, ClsV.own _, xi, r0, q 2 (by decide), (by show 3 ≤ sizeLine; decide), fun l0 m0 => ?_⟩
    obtain ⟨G1, hG1⟩ : ∃ G, G = upd H l0 (.lst [.bl (decide (0 = i)), .bl (decide (1 = i)), .bl (decide (2 = i))]) := ⟨_, rfl⟩
    have s1 : Same H G1 := by rw [hG1]; exact Same.new m0
    have t1 : G1 l0 = some (.lst [.bl (decide (0 = i)), .bl (decide (1 = i)), .bl (decide (2 = i))]) := by rw [hG1]; exact upd_same
    refine gname_go ?_
    rw [← hG1]
    have r1 : Err G1 a C := er.same s1
    refine ⟨_, rfl, _, rfl, a, C, _, _, _, rfl, ClsV.own _, xi, r1, q 3 (by decide), ?_⟩
    refine ⟨_, rfl, a, C, _, _, _, rfl, ClsV.own _, xi, r1, q 4 (by decide), ?_⟩
    refine ⟨_, rfl, a, C, _, _, _, rfl, ClsV.own _, xi, r1, q 5 (by decide), (by show 3 ≤ sizeLine; decide), fun l1 m1 => ?_⟩
    refine ⟨l0, l1, [.bl (decide (0 = i)), .bl (decide (1 = i)), .bl (decide (2 = i))], [.bl (decide (3 = i)), .bl (decide (4 = i)), .bl (decide (5 = i))], rfl, rfl, by rw [upd_ne (ne_of_none t1 m1)]; exact t1, upd_same, (by show 6 ≤ sizeLine; decide), fun p1 n1 => ?_⟩
    obtain ⟨G2, hG2⟩ : ∃ G, G = upd (upd G1 l1 (.lst [.bl (decide (3 = i)), .bl (decide (4 = i)), .bl (decide (5 = i))])) p1 (.lst ([.bl (decide (0 = i)), .bl (decide (1 = i)), .bl (decide (2 = i))] ++ [.bl (decide (3 = i)), .bl (decide (4 = i)), .bl (decide (5 = i))])) := ⟨_, rfl⟩
    have s2 : Same H G2 := by rw [hG2]; exact (s1.trans (Same.new m1)).trans (Same.new n1)
    have t2 : G2 p1 = some (.lst [.bl (decide (0 = i)), .bl (decide (1 = i)), .bl (decide (2 = i)), .bl (decide (3 = i)), .bl (decide (4 = i)), .bl (decide (5 = i))]) := by rw [hG2]; exact upd_same
    refine gname_go ?_
    rw [← hG2]
    have r2 : Err G2 a C := er.same s2
    refine ⟨_, rfl, _, rfl, a, C, _, _, _, rfl, ClsV.own _, xi, r2, q 6 (by decide), ?_⟩
    refine ⟨_, rfl, a, C, _, _, _, rfl, ClsV.own _, xi, r2, q 7 (by decide), ?_⟩
    refine ⟨_, rfl, a, C, _, _, _, rfl, ClsV.own _, xi, r2, q 8 (by decide), (by show 3 ≤ sizeLine; decide), fun l2 m2 => ?_⟩
    refine ⟨p1, l2, [.bl (decide (0 = i)), .bl (decide (1 = i)), .bl (decide (2 = i)), .bl (decide (3 = i)), .bl (decide (4 = i)), .bl (decide (5 = i))], [.bl (decide (6 = i)), .bl (decide (7 = i)), .bl (decide (8 = i))], rfl, rfl, by rw [upd_ne (ne_of_none t2 m2)]; exact t2, upd_same, (by show 9 ≤ sizeLine; decide), fun p2 n2 => ?_⟩
    obtain ⟨G3, hG3⟩ : ∃ G, G = upd (upd G2 l2 (.lst [.bl (decide (6 = i)), .bl (decide (7 = i)), .bl (decide (8 = i))])) p2 (.lst ([.bl (decide (0 = i)), .bl (decide (1 = i)), .bl (decide (2 = i)), .bl (decide (3 = i)), .bl (decide (4 = i)), .bl (decide (5 = i))] ++ [.bl (decide (6 = i)), .bl (decide (7 = i)), .bl (decide (8 = i))])) := ⟨_, rfl⟩
    have s3 : Same H G3 := by rw [hG3]; exact (s2.trans (Same.new m2)).trans (Same.new n2)
    have t3 : G3 p2 = some (.lst [.bl (decide (0 = i)), .bl (decide (1 = i)), .bl (decide (2 = i)), .bl (decide (3 = i)), .bl (decide (4 = i)), .bl (decide (5 = i)), .bl (decide (6 = i)), .bl (decide (7 = i)), .bl (decide (8 = i))]) := by rw [hG3]; exact upd_same
    refine gname_go ?_
    rw [← hG3]
    have r3 : Err G3 a C := er.same s3
    refine ⟨_, rfl, _, rfl, a, C, _, _, _, rfl, ClsV.own _, xi, r3, q 9 (by decide), ?_⟩
    refine ⟨_, rfl, a, C, _, _, _, rfl, ClsV.own _, xi, r3, q 10 (by decide), ?_⟩
    refine ⟨_, rfl, a, C, _, _, _, rfl, ClsV.own _, xi, r3, q 11 (by decide), (by show 3 ≤ sizeLine; decide), fun l3 m3 => ?_⟩
    refine ⟨p2, l3, [.bl (decide (0 = i)), .bl (decide (1 = i)), .bl (decide (2 = i)), .bl (decide (3 = i)), .bl (decide (4 = i)), .bl (decide (5 = i)), .bl (decide (6 = i)), .bl (decide (7 = i)), .bl (decide (8 = i))], [.bl (decide (9 = i)), .bl (decide (10 = i)), .bl (decide (11 = i))], rfl, rfl, by rw [upd_ne (ne_of_none t3 m3)]; exact t3, upd_same, (by show 12 ≤ sizeLine; decide), fun p3 n3 => ?_⟩
    obtain ⟨G4, hG4⟩ : ∃ G, G = upd (upd G3 l3 (.lst [.bl (decide (9 = i)), .bl (decide (10 = i)), .bl (decide (11 = i))])) p3 (.lst ([.bl (decide (0 = i)), .bl (decide (1 = i)), .bl (decide (2 = i)), .bl (decide (3 = i)), .bl (decide (4 = i)), .bl (decide (5 = i)), .bl (decide (6 = i)), .bl (decide (7 = i)), .bl (decide (8 = i))] ++ [.bl (decide (9 = i)), .bl (decide (10 = i)), .bl (decide (11 = i))])) := ⟨_, rfl⟩
    have s4 : Same H G4 := by rw [hG4]; exact (s3.trans (Same.new m3)).trans (Same.new n3)
    have t4 : G4 p3 = some (.lst [.bl (decide (0 = i)), .bl (decide (1 = i)), .bl (decide (2 = i)), .bl (decide (3 = i)), .bl (decide (4 = i)), .bl (decide (5 = i)), .bl (decide (6 = i)), .bl (decide (7 = i)), .bl (decide (8 = i)), .bl (decide (9 = i)), .bl (decide (10 = i)), .bl (decide (11 = i))]) := by rw [hG4]; exact upd_same
    refine gname_go ?_
    rw [← hG4]
    have r4 : Err G4 a C := er.same s4
    refine ⟨_, rfl, _, rfl, a, C, _, _, _, rfl, ClsV.own _, xi, r4, q 12 (by decide), ?_⟩
    refine ⟨_, rfl, a, C, _, _, _, rfl, ClsV.own _, xi, r4, q 13 (by decide), ?_⟩
    refine ⟨_, rfl, a, C, _, _, _, rfl, ClsV.own _, xi, r4, q 14 (by decide), (by show 3 ≤ sizeLine; decide), fun l4 m4 => ?_⟩
    refine ⟨p3, l4, [.bl (decide (0 = i)), .bl (decide (1 = i)), .bl (decide (2 = i)), .bl (decide (3 = i)), .bl (decide (4 = i)), .bl (decide (5 = i)), .bl (decide (6 = i)), .bl (decide (7 = i)), .bl (decide (8 = i)), .bl (decide (9 = i)), .bl (decide (10 = i)), .bl (decide (11 = i))], [.bl (decide (12 = i)), .bl (decide (13 = i)), .bl (decide (14 = i))], rfl, rfl, by rw [upd_ne (ne_of_none t4 m4)]; exact t4, upd_same, (by show 15 ≤ sizeLine; decide), fun p4 n4 => ?_⟩
    obtain ⟨G5, hG5⟩ : ∃ G, G = upd (upd G4 l4 (.lst [.bl (decide (12 = i)), .bl (decide (13 = i)), .bl (decide (14 = i))])) p4 (.lst ([.bl (decide (0 = i)), .bl (decide (1 = i)), .bl (decide (2 = i)), .bl (decide (3 = i)), .bl (decide (4 = i)), .bl (decide (5 = i)), .bl (decide (6 = i)), .bl (decide (7 = i)), .bl (decide (8 = i)), .bl (decide (9 = i)), .bl (decide (10 = i)), .bl (decide (11 = i))] ++ [.bl (decide (12 = i)), .bl (decide (13 = i)), .bl (decide (14 = i))])) := ⟨_, rfl⟩
    have s5 : Same H G5 := by rw [hG5]; exact (s4.trans (Same.new m4)).trans (Same.new n4)
    have t5 : G5 p4 = some (.lst [.bl (decide (0 = i)), .bl (decide (1 = i)), .bl (decide (2 = i)), .bl (decide (3 = i)), .bl (decide (4 = i)), .bl (decide (5 = i)), .bl (decide (6 = i)), .bl (decide (7 = i)), .bl (decide (8 = i)), .bl (decide (9 = i)), .bl (decide (10 = i)), .bl (decide (11 = i)), .bl (decide (12 = i)), .bl (decide (13 = i)), .bl (decide (14 = i))]) := by rw [hG5]; exact upd_same
    refine gname_go ?_
    rw [← hG5]
    have r5 : Err G5 a C := er.same s5
    refine ⟨_, rfl, a, C, _, _, _, rfl, ClsV.own _, xi, r5, kY, _, rfl, ?_⟩
    refine iteT ?_
    refine ⟨_, rfl, a, C, _, _, true, rfl, ClsV.ty _, xi, r5, kV, _, rfl, ?_⟩
    refine iteT ⟨_, rfl, ?_⟩
    exact k p4 G5 s5 t5
end
end Y
set_option Elab.async false
set_option linter.all false
set_option maxRecDepth 100000
set_option maxHeartbeats 1000000
namespace Y
open PySem L2
def spLaw (K : PySem.W.Frag) : Sp := fun vs H Q _ => ∃ (a : Addr) (ns : List Int), vs = [.ref a] ∧ SqL K H a (ns.map V.int) ∧ ns.length ≤ 63 ∧ ∀ H', Q (.bl true) H'
theorem hp_gen {X : L2.St → Hp → Prop} {σ : L2.St} {H : Hp} (h : ∀ Hc, Hc = H → X σ Hc) : X σ H := h H rfl
theorem deq (k i : Nat) : decide (V.int (0 + (k : Int)) = V.int (0 + (i : Int))) = decide (k = i) := by
  rw [dec_int, Bool.eq_iff_iff, beq_iff_eq, decide_eq_true_iff]
  omega
theorem allB {n i : Nat} : ((List.range n).map fun k => V.bl (decide (k = i))).all selfV = true := List.all_eq_true.mpr fun x hx => by
  obtain ⟨k, _, rfl⟩ := List.mem_map.mp hx
  rfl
theorem lcp_range {lo : Int} {n : Nat} {g : TG} {te : TE} {vs : List Nat} {σ : L2.St} {H1 : Hp} {D : Addr} {Qd : Hp → Prop} {f : Nat → V} (hn : H1 D = none) (hz : n ≤ 1000000)
    (he : ∀ (i : Nat) (H : Hp) (R : VK), i < n → Same H1 H → R (f i) H → g (.int (lo + i)) (wipe σ vs) H fun σ2 H2 => wipe σ2 vs = wipe σ vs ∧ te σ2 H2 R) (hd : Qd (upd H1 D (.lst ((List.range n).map f)))) :
    ∃ W : Nat → Nat → Hp → Prop, (∃ m, W 0 m (upd H1 D (.lst []))) ∧ ∀ i m H, W i m H →
      ((Itr lo n).stop i H ∧ Qd H) ∨ ((Itr lo n).go i H ∧ ∃ Nx : Hp → Prop, (∀ H', Nx H' → ∃ m', m' < m ∧ W (i + 1) m' H') ∧ ∀ x H', (Itr lo n).yld i H x H' → g x (wipe σ vs) H' fun σ2 H2 => wipe σ2 vs = wipe σ vs ∧ tYes σ2 H2 fun b H3 =>
        if b = true then te σ2 H3 fun y H4 => ∃ acc, H4 D = some (.lst acc) ∧ acc.length < sizeLine ∧ Nx (upd H4 D (.lst (acc ++ [y]))) else Nx H3) := by
  refine lc_range (lo := lo) (n := n) (fun i H => H = upd H1 D (.lst ((List.range i).map f))) rfl (fun i H hi e => ?_) (fun H e => ?_)
  · subst e
    refine he i _ _ hi (Same.new hn) ⟨(List.range i).map f, upd_same, ?_, ?_⟩
    · rw [List.length_map, List.length_range]
      have : sizeLine = 16777216 := sizeLine_eq
      omega
    · rw [upd_upd, List.range_succ, List.map_append]
      rfl
  · rw [e]
    exact hd
theorem st_eq {X : L2.St → Hp → Prop} {σ σ' : L2.St} {H : Hp} (e : σ = σ') (h : X σ' H) : X σ H := by rw [e]; exact h
theorem sameA {H H' : Hp} {a : Addr} {o : HO} (h : H a = none) (s : ∀ b u, b ≠ a → (upd H a o) b = some u → H' b = some u) : Same H H' := fun b u e => s b u (ne_of_none e h) (by rw [upd_ne (ne_of_none e h)]; exact e)
section
variable {P : Program} {w : World} {K : PySem.W.Frag} {mg : Str → Option Value} {base : Heap} {CY : Addr} {Cs fI : Nat → Addr} {fPick fPen fKinds : Addr}
theorem scLaw : FnScope ["_law_script", "_law_pen_here", "_law_one", "_law_two", "_law_line", "_law_number", "_law_kept", "_law_told", "_law_text", "_law_row", "_law_tie", "_law_ring", "_law_move", "_law_name", "_law_none", "_law_taken", "_law_unlike", "_law_many", "_law_errors", "_law_place", "_law_k"] ["_law_script"] (defScope sLaw) := ⟨rfl, rfl, rfl, by decide +kernel, rfl, by decide +kernel, by decide +kernel⟩
/-- the makers of the thirteen classes -/
structure Mk (P : Program) (w : World) (K : PySem.W.Frag) (mg : Str → Option Value) (base : Heap) (C f : Addr) (ps : List Str) (sp : Sp) : Prop where
  ex : ∃ fd, FnOk P w K mg base CX0 1 f fd ps sp ∧ Binds K fd ps []
  i : PySem.W.findIn K (.ref C) "__init__" = some (some (.ref f))
  t : PySem.W.typeIn K (.ref f) = some (.type "function")
theorem ok_law {f : Addr} {fd fdK fdPen fdD : FuncData} (F : Fun K "law" "law" sLaw f fd) (T : T0 K mg CY Cs) (gPick : mg "_law_pick" = some (.ref fPick)) (gPen : mg "_law_pen" = some (.ref fPen)) (gKinds : mg "_law_kinds" = some (.ref fKinds))
    (M0 : Mk P w K mg base (Cs 0) (fI 0) ["self", "column"] (sp1 (Cs 0) "column"))
    (M1 : Mk P w K mg base (Cs 1) (fI 1) ["self", "line", "column"] (sp2 (Cs 1) "line" "column"))
    (M2 : Mk P w K mg base (Cs 2) (fI 2) ["self", "what", "number"] (sp2 (Cs 2) "what" "number"))
    (M3 : Mk P w K mg base (Cs 3) (fI 3) ["self", "row"] (sp1 (Cs 3) "row"))
    (M4 : Mk P w K mg base (Cs 4) (fI 4) ["self", "tie"] (sp1 (Cs 4) "tie"))
    (M5 : Mk P w K mg base (Cs 5) (fI 5) ["self", "index"] (sp1 (Cs 5) "index"))
    (M6 : Mk P w K mg base (Cs 6) (fI 6) ["self", "index"] (sp1 (Cs 6) "index"))
    (M7 : Mk P w K mg base (Cs 7) (fI 7) ["self", "name"] (sp1 (Cs 7) "name"))
    (M8 : Mk P w K mg base (Cs 8) (fI 8) ["self", "name"] (sp1 (Cs 8) "name"))
    (M9 : Mk P w K mg base (Cs 9) (fI 9) ["self", "name"] (sp1 (Cs 9) "name"))
    (M10 : Mk P w K mg base (Cs 10) (fI 10) ["self", "what"] (sp1 (Cs 10) "what"))
    (M11 : Mk P w K mg base (Cs 11) (fI 11) ["self", "most"] (sp1 (Cs 11) "most"))
    (M12 : Mk P w K mg base (Cs 12) (fI 12) ["self", "promise", "witness"] (sp2 (Cs 12) "promise" "witness"))
    (GK : FnOk P w K mg base CX0 2 fPick fdK ["_law_pen_here", "_law_some"] (spPick K)) (FK : Fun K "_law_pick" "_law_pick" sPick fPick fdK) (bK : Binds K fdK ["_law_pen_here", "_law_some"] [])
    (GPen : FnOk P w K mg base CX0 1 fPen fdPen ["_law_script"] (spPen K)) (FPen : Fun K "_law_pen" "_law_pen" sPen fPen fdPen) (bPen : Binds K fdPen ["_law_script"] [])
    (GD : FnOk P w K mg base CX0 1 fKinds fdD ["_law_error"] (spKinds K CY Cs)) (FD : Fun K "_law_kinds" "_law_kinds" sKinds fKinds fdD) (bD : Binds K fdD ["_law_error"] []) :
    FnOk P w K mg base CX0 3 f fd ["_law_script"] (spLaw K) := by
  obtain ⟨⟨fd0, G0, B0⟩, I0, J0⟩ := M0
  obtain ⟨⟨fd1, G1, B1⟩, I1, J1⟩ := M1
  obtain ⟨⟨fd2, G2, B2⟩, I2, J2⟩ := M2
  obtain ⟨⟨fd3, G3, B3⟩, I3, J3⟩ := M3
  obtain ⟨⟨fd4, G4, B4⟩, I4, J4⟩ := M4
  obtain ⟨⟨fd5, G5, B5⟩, I5, J5⟩ := M5
  obtain ⟨⟨fd6, G6, B6⟩, I6, J6⟩ := M6
  obtain ⟨⟨fd7, G7, B7⟩, I7, J7⟩ := M7
  obtain ⟨⟨fd8, G8, B8⟩, I8, J8⟩ := M8
  obtain ⟨⟨fd9, G9, B9⟩, I9, J9⟩ := M9
  obtain ⟨⟨fd10, G10, B10⟩, I10, J10⟩ := M10
  obtain ⟨⟨fd11, G11, B11⟩, I11, J11⟩ := M11
  obtain ⟨⟨fd12, G12, B12⟩, I12, J12⟩ := M12
  refine F.ok scLaw (fun vs H Q E h => ?_) (fun cdv A outer s H vs Q E hr h => ?_)
  · obtain ⟨a, ns, rfl, _⟩ := h
    rfl
  · obtain ⟨a, ns, rfl, hS, hlen, k⟩ := h
    have hr1 : Room 1 _ := hr.mono (by decide)
    have hu := Nat.lt_of_succ_lt (hu_of hr)
    refine ⟨_, pss_cons (ps_set (i := 1) scLaw.nd rfl (Or.inl rfl) (pe_call GPen hr1 (by rfl) gPen FPen.kp bPen .nil pass0 (pa_cons (pv 0) pa_nil)))
      (pss_cons (ps_set (i := 2) scLaw.nd rfl (Or.inl rfl) (pe_call GK hr (by rfl) gPick FK.kp bK .nil pass0 (pa_cons (pv 1) (pa_cons (pe_lst (pa_cons pe_int (pa_cons pe_str (pa_cons pe_non (pa_cons (pe_tup (pa_cons pe_int (pa_cons pe_int pa_nil))) (pa_cons (pe_lst (pa_cons pe_int (pa_cons pe_int pa_nil))) (pa_cons pe_bl pa_nil))))))) pa_nil))))
      (pss_cons (ps_set (i := 3) scLaw.nd rfl (Or.inl rfl) (pe_call GK hr (by rfl) gPick FK.kp bK .nil pass0 (pa_cons (pv 1) (pa_cons (pe_lst (pa_cons pe_int (pa_cons pe_str (pa_cons (pe_tup (pa_cons pe_str pa_nil)) (pa_cons (pe_lst pa_nil) (pa_cons (pe_disp (pps_cons pe_str pe_int pps_nil) (by rfl) (by rfl) (fun z => by cases z) (by decide)) pa_nil)))))) pa_nil))))
      (pss_cons (ps_par3 (i := 4) (j := 5) (l := 6) rfl scLaw.nd rfl rfl rfl (by decide) (by decide) (by decide) rfl rfl rfl (pa_cons (pe_mkV (T.oex 1 (by decide)) I1 J1 G1 hr B1 pass0 (by rfl) T.g1 (pa_cons (pv 2) (pa_cons (pv 3) pa_nil))) (pa_cons (pe_mkV (T.oex 2 (by decide)) I2 J2 G2 hr B2 pass0 (by rfl) T.g2 (pa_cons (pv 2) (pa_cons (pv 3) pa_nil))) (pa_cons (pe_mkV (T.oex 12 (by decide)) I12 J12 G12 hr B12 pass0 (by rfl) T.g12 (pa_cons (pv 2) (pa_cons (pv 3) pa_nil))) pa_nil))) (by rfl))
      (pss_cons (ps_set (i := 7) scLaw.nd rfl (Or.inl rfl) (pe_lst (pa_cons (pe_xv (pv 4)) (pa_cons (pe_xv (pv 4)) (pa_cons (pe_xv (pv 5)) (pa_cons (pe_xv (pv 5)) (pa_cons (pe_xv (pv 6)) (pa_cons (pe_xv (pv 6)) pa_nil))))))))
      (pss_cons (ps_if (pt_cmpR (op_ne_same hu) (pv 7) (pe_op op_rep (pe_lst (pa_cons (pv 2) (pa_cons (pv 3) pa_nil))) pe_int) (nomark _)) (pss_one (ps_ret pe_bl)) pss_nil)
      (pss_cons (ps_asg (pe_tup (pa_cons (pe_mkV (T.oex 0 (by decide)) I0 J0 G0 hr B0 pass0 (by rfl) T.g0 (pa_cons (pv 2) pa_nil)) (pa_cons (pe_mkV (T.oex 3 (by decide)) I3 J3 G3 hr B3 pass0 (by rfl) T.g3 (pa_cons (pv 2) pa_nil)) (pa_cons (pe_mkV (T.oex 4 (by decide)) I4 J4 G4 hr B4 pass0 (by rfl) T.g4 (pa_cons (pv 2) pa_nil)) (pa_cons (pe_mkV (T.oex 5 (by decide)) I5 J5 G5 hr B5 pass0 (by rfl) T.g5 (pa_cons (pv 2) pa_nil)) (pa_cons (pe_mkV (T.oex 6 (by decide)) I6 J6 G6 hr B6 pass0 (by rfl) T.g6 (pa_cons (pv 2) pa_nil)) pa_nil)))))) (pg_tup rfl (pgs_cons (pg_name (i := 8) scLaw.nd rfl (Or.inl rfl)) (pgs_cons (pg_name (i := 9) scLaw.nd rfl (Or.inl rfl)) (pgs_cons (pg_name (i := 10) scLaw.nd rfl (Or.inl rfl)) (pgs_cons (pg_name (i := 11) scLaw.nd rfl (Or.inl rfl)) (pgs_cons (pg_name (i := 12) scLaw.nd rfl (Or.inl rfl)) pgs_nil)))))))
      (pss_cons (ps_asg (pe_tup (pa_cons (pe_mkV (T.oex 7 (by decide)) I7 J7 G7 hr B7 pass0 (by rfl) T.g7 (pa_cons (pv 2) pa_nil)) (pa_cons (pe_mkV (T.oex 8 (by decide)) I8 J8 G8 hr B8 pass0 (by rfl) T.g8 (pa_cons (pv 2) pa_nil)) (pa_cons (pe_mkV (T.oex 9 (by decide)) I9 J9 G9 hr B9 pass0 (by rfl) T.g9 (pa_cons (pv 2) pa_nil)) (pa_cons (pe_mkV (T.oex 10 (by decide)) I10 J10 G10 hr B10 pass0 (by rfl) T.g10 (pa_cons (pv 2) pa_nil)) (pa_cons (pe_mkV (T.oex 11 (by decide)) I11 J11 G11 hr B11 pass0 (by rfl) T.g11 (pa_cons (pv 2) pa_nil)) pa_nil)))))) (pg_tup rfl (pgs_cons (pg_name (i := 13) scLaw.nd rfl (Or.inl rfl)) (pgs_cons (pg_name (i := 14) scLaw.nd rfl (Or.inl rfl)) (pgs_cons (pg_name (i := 15) scLaw.nd rfl (Or.inl rfl)) (pgs_cons (pg_name (i := 16) scLaw.nd rfl (Or.inl rfl)) (pgs_cons (pg_name (i := 17) scLaw.nd rfl (Or.inl rfl)) pgs_nil)))))))
      (pss_cons (ps_set (i := 7) scLaw.nd rfl (Or.inl rfl) (pe_lst (pa_cons (pe_xv (pv 8)) (pa_cons (pe_xv (pv 9)) (pa_cons (pe_xv (pv 10)) (pa_cons (pe_xv (pv 11)) (pa_cons (pe_xv (pv 12)) (pa_cons (pe_xv (pv 13)) (pa_cons (pe_xv (pv 14)) (pa_cons (pe_xv (pv 15)) pa_nil))))))))))
      (pss_cons (ps_if (pt_cmpR (op_ne_same hu) (pe_op op_cat (pv 7) (pe_lst (pa_cons (pe_xv (pv 16)) (pa_cons (pe_xv (pv 17)) pa_nil)))) (pe_op op_rep (pe_lst (pa_cons (pv 2) pa_nil)) pe_int) (nomark _)) (pss_one (ps_ret pe_bl)) pss_nil)
      (pss_cons (ps_set (i := 18) scLaw.nd rfl (Or.inl rfl) (pe_lst (pa_cons (pv 8) (pa_cons (pv 4) (pa_cons (pv 5) (pa_cons (pv 9) (pa_cons (pv 10) (pa_cons (pv 11) (pa_cons (pv 12) (pa_cons (pv 13) (pa_cons (pv 14) (pa_cons (pv 15) (pa_cons (pv 16) (pa_cons (pv 17) (pa_cons (pv 6) pa_nil)))))))))))))))
      (pss_cons (ps_set (i := 18) scLaw.nd rfl (Or.inl rfl) (pe_op op_cat (pv 18) (pe_lst (pa_cons (pe_excV0 PySem.F.excBase_ValueError T.e13 T.g13 T.kp13 (by rfl)) (pa_cons (pe_excV0 PySem.F.excBase_ValueError T.e14 T.g14 T.kp14 (by rfl)) pa_nil)))))
      (pss_cons (ps_for PassesOwn.never rfl (pi_range1 (by rfl) T.range (pa_cons pe_int pa_nil)) (pg_name (i := 19) scLaw.nd rfl (Or.inr rfl)) (pss_one (ps_if (pt_cmpR (op_ne_same hu) (pe_call GD hr1 (by rfl) gKinds FD.kp bD .nil pass0 (pa_cons (pe_ix ix_list (pv 18) (pv 19) (fun _ _ => rfl)) pa_nil)) (pe_lc (own := [("_law_k", 20)]) (g := gName 20) (tt := tYes) rfl scLaw.nd (pi_range1 (by rfl) T.range (pa_cons pe_int pa_nil)) (blkOk_by (N := ["_law_script", "_law_pen_here", "_law_one", "_law_two", "_law_line", "_law_number", "_law_kept", "_law_told", "_law_text", "_law_row", "_law_tie", "_law_ring", "_law_move", "_law_name", "_law_none", "_law_taken", "_law_unlike", "_law_many", "_law_errors", "_law_place", "_law_k"]) (sc := defScope sLaw) (by decide +kernel)) (fun _ _ _ _ _ => pg_name (i := 20) scLaw.nd rfl (Or.inl rfl)) (fun _ _ _ _ _ => pts_nil) (fun _ _ _ _ _ => pe_cmpR op_eq (pv 20) (pv 19) rfl)) (nomark _)) (pss_one (ps_ret pe_bl)) pss_nil)))
      (pss_one (ps_ret (pe_and (pe_callB call_isV (by rfl) T.isi (by decide +kernel) (pa_cons (pe_excV0 PySem.F.excBase_ValueError T.eY T.gY T.kpY (by rfl)) (pa_cons (pbT (n := "ValueError") T.ve (by decide +kernel)) pa_nil))) (pe_one (pe_cmpR (op_eq_same hu) (pe_call GD hr1 (by rfl) gKinds FD.kp bD .nil pass0 (pa_cons (pe_excV0 PySem.F.excBase_ValueError T.eY T.gY T.kpY (by rfl)) pa_nil)) (pe_op op_rep (pe_lst (pa_cons pe_bl pa_nil)) pe_int) (nomark _)))))))))))))))))), ?_⟩
    refine ⟨_, rfl, a, ns, rfl, hS, hlen, fun p H1 P1 s1 hp => ?_⟩
    -- the two values
    refine ⟨_, rfl, (by show 2 ≤ sizeLine; decide), fun t1 m1 => ⟨(by show 2 ≤ sizeLine; decide), fun t2 m2 => ⟨(by show 6 ≤ sizeLine; decide), fun t3 m3 => ?_⟩⟩⟩
    refine ⟨p, t3, [.int 3, .str "name", .non, .ref t1, .ref t2, .bl true], 2 ^ 40 - 1, rfl, (((P1.same (Same.new m1)).same (Same.new m2)).same (Same.new m3)), .inl (SqL.of upd_same), (fun e => by cases e), (by show 6 ≤ 1000000; decide), fun one i1 H2 hx1 P2 B2 => ?_⟩
    have v1 : selfV one = true := by
      have hm := List.mem_of_getElem? hx1
      simp only [List.mem_cons, List.not_mem_nil, or_false] at hm
      rcases hm with rfl | rfl | rfl | rfl | rfl | rfl <;> rfl
    refine ⟨_, rfl, (by show 1 ≤ sizeLine; decide), fun t4 m4 => ⟨(by show 0 ≤ sizeLine; decide), fun t5 m5 => fun t6 m6 => ?_⟩⟩
    refine ⟨upd_same, [(Sum.inr "a", .int 1)], rfl, (by show 1 ≤ 15; decide), (by show 5 ≤ sizeLine; decide), fun t7 m7 => ?_⟩
    rw [upd_upd] at m7 ⊢
    have P3 := (((P2.same (Same.new (o := .tup [.str "a"]) m4)).same (Same.new (o := .lst []) m5)).same (Same.new (o := .dK (mergeK [] [(Sum.inr "a", .int 1)])) m6)).same (Same.new (o := .lst [.int 0, .str "", .ref t4, .ref t5, .ref t6]) m7)
    refine ⟨p, t7, [.int 0, .str "", .ref t4, .ref t5, .ref t6], 2 ^ 40 - 2, rfl, P3, .inl (SqL.of upd_same), (fun e => by cases e), (by show 5 ≤ 1000000; decide), fun two i2 H3 hx2 P4 B4 => ?_⟩
    have v2 : selfV two = true := by
      have hm := List.mem_of_getElem? hx2
      simp only [List.mem_cons, List.not_mem_nil, or_false] at hm
      rcases hm with rfl | rfl | rfl | rfl | rfl <;> rfl
    -- three with two fields
    refine ⟨_, rfl, _, rfl, (by show 2 ≤ 1000; decide), fun a1 h1 => ⟨a1, _, _, rfl, upd_same, fun dd1 H4 hd1 hs1 ea1 ed1 => ⟨rfl, ?_⟩⟩⟩
    have s4 := sameA h1 hs1
    have e1 : EV H4 a1 (Cs 1) [("column", two), ("line", one)] := ⟨dd1, ea1, ed1⟩
    refine ⟨_, rfl, _, rfl, (by show 2 ≤ 1000; decide), fun a2 h2 => ⟨a2, _, _, rfl, upd_same, fun dd2 H5 hd2 hs2 ea2 ed2 => ⟨rfl, ?_⟩⟩⟩
    have s5 := sameA h2 hs2
    have e2 : EV H5 a2 (Cs 2) [("number", two), ("what", one)] := ⟨dd2, ea2, ed2⟩
    refine ⟨_, rfl, _, rfl, (by show 2 ≤ 1000; decide), fun a12 h12 => ⟨a12, _, _, rfl, upd_same, fun dd12 H6 hd12 hs12 ea12 ed12 => ⟨rfl, ?_⟩⟩⟩
    have s6 := sameA h12 hs12
    have e12 : EV H6 a12 (Cs 12) [("witness", two), ("promise", one)] := ⟨dd12, ea12, ed12⟩
    refine ⟨_, _, _, rfl, ?_⟩
    refine st_eq (σ' := [some (.ref a), some (.ref p), some one, some two, some (.ref a1), some (.ref a2), some (.ref a12), none, none, none, none, none, none, none, none, none, none, none, none, none, none]) (by rfl) ?_
    obtain ⟨du0, xu0, yu0⟩ := e1.same (s5.trans s6)
    refine ⟨_, rfl, a1, Cs 1, du0, _, _, rfl, T.xf 1 (by decide), T.n1a, xu0, yu0, rfl, ?_⟩
    obtain ⟨du1, xu1, yu1⟩ := e1.same (s5.trans s6)
    refine ⟨_, rfl, a1, Cs 1, du1, _, _, rfl, T.xf 1 (by decide), T.n1b, xu1, yu1, rfl, ?_⟩
    obtain ⟨du2, xu2, yu2⟩ := e2.same s6
    refine ⟨_, rfl, a2, Cs 2, du2, _, _, rfl, T.xf 2 (by decide), T.n2a, xu2, yu2, rfl, ?_⟩
    obtain ⟨du3, xu3, yu3⟩ := e2.same s6
    refine ⟨_, rfl, a2, Cs 2, du3, _, _, rfl, T.xf 2 (by decide), T.n2b, xu3, yu3, rfl, ?_⟩
    obtain ⟨du4, xu4, yu4⟩ := e12.same (Same.refl _)
    refine ⟨_, rfl, a12, Cs 12, du4, _, _, rfl, T.xf 12 (by decide), T.n12a, xu4, yu4, rfl, ?_⟩
    obtain ⟨du5, xu5, yu5⟩ := e12.same (Same.refl _)
    refine ⟨_, rfl, a12, Cs 12, du5, _, _, rfl, T.xf 12 (by decide), T.n12b, xu5, yu5, rfl, (by show 6 ≤ sizeLine; decide), fun l1 n1 => ?_⟩
    refine st_eq (σ' := [some (.ref a), some (.ref p), some one, some two, some (.ref a1), some (.ref a2), some (.ref a12), some (.ref l1), none, none, none, none, none, none, none, none, none, none, none, none, none]) (by rfl) ?_
    refine ⟨_, rfl, _, rfl, _, rfl, (by show 2 ≤ sizeLine; decide), fun l2 n2 => ⟨l2, 3, [one, two], rfl, rfl, upd_same, by decide, by decide, (by show 2 * 3 ≤ sizeLine; decide), fun l3 n3 => ?_⟩⟩
    refine ⟨l1, l3, [one, two, one, two, one, two], rfl, rfl, SqL.of ((Same.new n3) _ _ ((Same.new n2) _ _ upd_same)), SqL.of upd_same, by simp only [List.all_cons, List.all_nil, v1, v2, Bool.and_self], _, rfl, iteF ?_⟩
    -- ten with one field
    refine ⟨_, rfl, (by show 1 ≤ 1000; decide), fun a0 h0 => ⟨a0, _, rfl, upd_same, fun dd0 H7 hd0 hs0 ea0 ed0 => ⟨rfl, ?_⟩⟩⟩
    have s7 := sameA h0 hs0
    have e0 : EV H7 a0 (Cs 0) [("column", one)] := ⟨dd0, ea0, ed0⟩
    refine ⟨_, rfl, (by show 1 ≤ 1000; decide), fun a3 h3 => ⟨a3, _, rfl, upd_same, fun dd3 H8 hd3 hs3 ea3 ed3 => ⟨rfl, ?_⟩⟩⟩
    have s8 := sameA h3 hs3
    have e3 : EV H8 a3 (Cs 3) [("row", one)] := ⟨dd3, ea3, ed3⟩
    refine ⟨_, rfl, (by show 1 ≤ 1000; decide), fun a4 h4 => ⟨a4, _, rfl, upd_same, fun dd4 H9 hd4 hs4 ea4 ed4 => ⟨rfl, ?_⟩⟩⟩
    have s9 := sameA h4 hs4
    have e4 : EV H9 a4 (Cs 4) [("tie", one)] := ⟨dd4, ea4, ed4⟩
    refine ⟨_, rfl, (by show 1 ≤ 1000; decide), fun a5 h5 => ⟨a5, _, rfl, upd_same, fun dd5 H10 hd5 hs5 ea5 ed5 => ⟨rfl, ?_⟩⟩⟩
    have s10 := sameA h5 hs5
    have e5 : EV H10 a5 (Cs 5) [("index", one)] := ⟨dd5, ea5, ed5⟩
    refine ⟨_, rfl, (by show 1 ≤ 1000; decide), fun a6 h6 => ⟨a6, _, rfl, upd_same, fun dd6 H11 hd6 hs6 ea6 ed6 => ⟨rfl, ?_⟩⟩⟩
    have s11 := sameA h6 hs6
    have e6 : EV H11 a6 (Cs 6) [("index", one)] := ⟨dd6, ea6, ed6⟩
    refine ⟨(by show 5 ≤ sizeLine; decide), fun q1 nq1 => ?_⟩
    refine ⟨q1, _, rfl, SqT.of upd_same, rfl, _, _, rfl, _, _, rfl, _, _, rfl, _, _, rfl, _, _, rfl, rfl, ?_⟩
    refine st_eq (σ' := [some (.ref a), some (.ref p), some one, some two, some (.ref a1), some (.ref a2), some (.ref a12), some (.ref l1), some (.ref a0), some (.ref a3), some (.ref a4), some (.ref a5), some (.ref a6), none, none, none, none, none, none, none, none]) (by rfl) ?_
    refine ⟨_, rfl, (by show 1 ≤ 1000; decide), fun a7 h7 => ⟨a7, _, rfl, upd_same, fun dd7 H12 hd7 hs7 ea7 ed7 => ⟨rfl, ?_⟩⟩⟩
    have s12 := sameA h7 hs7
    have e7 : EV H12 a7 (Cs 7) [("name", one)] := ⟨dd7, ea7, ed7⟩
    refine ⟨_, rfl, (by show 1 ≤ 1000; decide), fun a8 h8 => ⟨a8, _, rfl, upd_same, fun dd8 H13 hd8 hs8 ea8 ed8 => ⟨rfl, ?_⟩⟩⟩
    have s13 := sameA h8 hs8
    have e8 : EV H13 a8 (Cs 8) [("name", one)] := ⟨dd8, ea8, ed8⟩
    refine ⟨_, rfl, (by show 1 ≤ 1000; decide), fun a9 h9 => ⟨a9, _, rfl, upd_same, fun dd9 H14 hd9 hs9 ea9 ed9 => ⟨rfl, ?_⟩⟩⟩
    have s14 := sameA h9 hs9
    have e9 : EV H14 a9 (Cs 9) [("name", one)] := ⟨dd9, ea9, ed9⟩
    refine ⟨_, rfl, (by show 1 ≤ 1000; decide), fun a10 h10 => ⟨a10, _, rfl, upd_same, fun dd10 H15 hd10 hs10 ea10 ed10 => ⟨rfl, ?_⟩⟩⟩
    have s15 := sameA h10 hs10
    have e10 : EV H15 a10 (Cs 10) [("what", one)] := ⟨dd10, ea10, ed10⟩
    refine ⟨_, rfl, (by show 1 ≤ 1000; decide), fun a11 h11 => ⟨a11, _, rfl, upd_same, fun dd11 H16 hd11 hs11 ea11 ed11 => ⟨rfl, ?_⟩⟩⟩
    have s16 := sameA h11 hs11
    have e11 : EV H16 a11 (Cs 11) [("most", one)] := ⟨dd11, ea11, ed11⟩
    refine ⟨(by show 5 ≤ sizeLine; decide), fun q2 nq2 => ?_⟩
    refine ⟨q2, _, rfl, SqT.of upd_same, rfl, _, _, rfl, _, _, rfl, _, _, rfl, _, _, rfl, _, _, rfl, rfl, ?_⟩
    refine st_eq (σ' := [some (.ref a), some (.ref p), some one, some two, some (.ref a1), some (.ref a2), some (.ref a12), some (.ref l1), some (.ref a0), some (.ref a3), some (.ref a4), some (.ref a5), some (.ref a6), some (.ref a7), some (.ref a8), some (.ref a9), some (.ref a10), some (.ref a11), none, none, none]) (by rfl) ?_
    obtain ⟨dw0, xw0, yw0⟩ := e0.same (s8.trans (s9.trans (s10.trans (s11.trans ((Same.new nq1).trans (s12.trans (s13.trans (s14.trans (s15.trans (s16.trans (Same.new nq2)))))))))))
    refine ⟨_, rfl, a0, Cs 0, dw0, _, _, rfl, T.xf 0 (by decide), T.n0, xw0, yw0, rfl, ?_⟩
    obtain ⟨dw1, xw1, yw1⟩ := e3.same (s9.trans (s10.trans (s11.trans ((Same.new nq1).trans (s12.trans (s13.trans (s14.trans (s15.trans (s16.trans (Same.new nq2))))))))))
    refine ⟨_, rfl, a3, Cs 3, dw1, _, _, rfl, T.xf 3 (by decide), T.n3, xw1, yw1, rfl, ?_⟩
    obtain ⟨dw2, xw2, yw2⟩ := e4.same (s10.trans (s11.trans ((Same.new nq1).trans (s12.trans (s13.trans (s14.trans (s15.trans (s16.trans (Same.new nq2)))))))))
    refine ⟨_, rfl, a4, Cs 4, dw2, _, _, rfl, T.xf 4 (by decide), T.n4, xw2, yw2, rfl, ?_⟩
    obtain ⟨dw3, xw3, yw3⟩ := e5.same (s11.trans ((Same.new nq1).trans (s12.trans (s13.trans (s14.trans (s15.trans (s16.trans (Same.new nq2))))))))
    refine ⟨_, rfl, a5, Cs 5, dw3, _, _, rfl, T.xf 5 (by decide), T.n5, xw3, yw3, rfl, ?_⟩
    obtain ⟨dw4, xw4, yw4⟩ := e6.same ((Same.new nq1).trans (s12.trans (s13.trans (s14.trans (s15.trans (s16.trans (Same.new nq2)))))))
    refine ⟨_, rfl, a6, Cs 6, dw4, _, _, rfl, T.xf 6 (by decide), T.n6, xw4, yw4, rfl, ?_⟩
    obtain ⟨dw5, xw5, yw5⟩ := e7.same (s13.trans (s14.trans (s15.trans (s16.trans (Same.new nq2)))))
    refine ⟨_, rfl, a7, Cs 7, dw5, _, _, rfl, T.xf 7 (by decide), T.n7, xw5, yw5, rfl, ?_⟩
    obtain ⟨dw6, xw6, yw6⟩ := e8.same (s14.trans (s15.trans (s16.trans (Same.new nq2))))
    refine ⟨_, rfl, a8, Cs 8, dw6, _, _, rfl, T.xf 8 (by decide), T.n8, xw6, yw6, rfl, ?_⟩
    obtain ⟨dw7, xw7, yw7⟩ := e9.same (s15.trans (s16.trans (Same.new nq2)))
    refine ⟨_, rfl, a9, Cs 9, dw7, _, _, rfl, T.xf 9 (by decide), T.n9, xw7, yw7, rfl, (by show 8 ≤ sizeLine; decide), fun l4 n4 => ?_⟩
    refine st_eq (σ' := [some (.ref a), some (.ref p), some one, some two, some (.ref a1), some (.ref a2), some (.ref a12), some (.ref l4), some (.ref a0), some (.ref a3), some (.ref a4), some (.ref a5), some (.ref a6), some (.ref a7), some (.ref a8), some (.ref a9), some (.ref a10), some (.ref a11), none, none, none]) (by rfl) ?_
    refine ⟨_, rfl, ?_⟩
    obtain ⟨dz0, xz0, yz0⟩ := e10.same (s16.trans ((Same.new nq2).trans (Same.new n4)))
    refine ⟨_, rfl, a10, Cs 10, dz0, _, _, rfl, T.xf 10 (by decide), T.n10, xz0, yz0, rfl, ?_⟩
    obtain ⟨dz1, xz1, yz1⟩ := e11.same ((Same.new nq2).trans (Same.new n4))
    refine ⟨_, rfl, a11, Cs 11, dz1, _, _, rfl, T.xf 11 (by decide), T.n11, xz1, yz1, rfl, (by show 2 ≤ sizeLine; decide), fun l5 n5 => ?_⟩
    refine ⟨l4, l5, [one, one, one, one, one, one, one, one], [one, one], rfl, rfl, (Same.new n5) _ _ upd_same, upd_same, (by show 8 + 2 ≤ sizeLine; decide), fun l6 n6 => ?_⟩
    refine ⟨_, rfl, (by show 1 ≤ sizeLine; decide), fun l7 n7 => ⟨l7, 10, [one], rfl, rfl, upd_same, by decide, by decide, (by show 1 * 10 ≤ sizeLine; decide), fun l8 n8 => ?_⟩⟩
    refine ⟨l6, l8, [one, one, one, one, one, one, one, one, one, one], rfl, rfl, SqL.of ((Same.new n8) _ _ ((Same.new n7) _ _ upd_same)), SqL.of upd_same, by simp only [List.all_cons, List.all_nil, v1, Bool.and_self], _, rfl, iteF ?_⟩
    -- all fifteen in a row
    refine ⟨_, rfl, _, rfl, _, rfl, _, rfl, _, rfl, _, rfl, _, rfl, _, rfl, _, rfl, _, rfl, _, rfl, _, rfl, _, rfl, (by show 13 ≤ sizeLine; decide), fun l9 n9 => ?_⟩
    refine st_eq (σ' := [some (.ref a), some (.ref p), some one, some two, some (.ref a1), some (.ref a2), some (.ref a12), some (.ref l4), some (.ref a0), some (.ref a3), some (.ref a4), some (.ref a5), some (.ref a6), some (.ref a7), some (.ref a8), some (.ref a9), some (.ref a10), some (.ref a11), some (.ref l9), none, none]) (by rfl) ?_
    refine ⟨_, rfl, fun a13 n13 => fun a14 n14 => ⟨(by show 2 ≤ sizeLine; decide), fun l10 n10 => ?_⟩⟩
    refine ⟨l9, l10, [.ref a0, .ref a1, .ref a2, .ref a3, .ref a4, .ref a5, .ref a6, .ref a7, .ref a8, .ref a9, .ref a10, .ref a11, .ref a12], [.ref a13, .ref a14], rfl, rfl, (Same.new n10) _ _ ((Same.new n14) _ _ ((Same.new n13) _ _ upd_same)), upd_same, (by show 13 + 2 ≤ sizeLine; decide), fun l11 n11 => ?_⟩
    refine st_eq (σ' := [some (.ref a), some (.ref p), some one, some two, some (.ref a1), some (.ref a2), some (.ref a12), some (.ref l4), some (.ref a0), some (.ref a3), some (.ref a4), some (.ref a5), some (.ref a6), some (.ref a7), some (.ref a8), some (.ref a9), some (.ref a10), some (.ref a11), some (.ref l11), none, none]) (by rfl) ?_
    refine hp_gen fun Hc hHc => ?_
    have S : Same H16 Hc := by rw [hHc]; exact ((Same.new nq2).trans ((Same.new n4).trans ((Same.new n5).trans ((Same.new n6).trans ((Same.new n7).trans ((Same.new n8).trans ((Same.new n9).trans ((Same.new n13).trans ((Same.new n14).trans ((Same.new n10).trans (Same.new n11)))))))))))
    have errs : Hc l11 = some (.lst ([.ref a0, .ref a1, .ref a2, .ref a3, .ref a4, .ref a5, .ref a6, .ref a7, .ref a8, .ref a9, .ref a10, .ref a11, .ref a12, .ref a13, .ref a14] : List V)) := by rw [hHc]; exact upd_same
    have E13 : Err Hc a13 (Cs 13) := by rw [hHc]; exact (show Err _ a13 (Cs 13) from .inl upd_same).same ((Same.new n14).trans ((Same.new n10).trans (Same.new n11)))
    have E14 : Err Hc a14 (Cs 14) := by rw [hHc]; exact (show Err _ a14 (Cs 14) from .inl upd_same).same ((Same.new n10).trans (Same.new n11))
    have E0 : Err Hc a0 (Cs 0) := (e0.same ((s8.trans (s9.trans (s10.trans (s11.trans ((Same.new nq1).trans (s12.trans (s13.trans (s14.trans (s15.trans s16))))))))).trans S)).err
    have E1 : Err Hc a1 (Cs 1) := (e1.same ((s5.trans (s6.trans ((Same.new n1).trans ((Same.new n2).trans ((Same.new n3).trans (s7.trans (s8.trans (s9.trans (s10.trans (s11.trans ((Same.new nq1).trans (s12.trans (s13.trans (s14.trans (s15.trans s16))))))))))))))).trans S)).err
    have E2 : Err Hc a2 (Cs 2) := (e2.same ((s6.trans ((Same.new n1).trans ((Same.new n2).trans ((Same.new n3).trans (s7.trans (s8.trans (s9.trans (s10.trans (s11.trans ((Same.new nq1).trans (s12.trans (s13.trans (s14.trans (s15.trans s16)))))))))))))).trans S)).err
    have E3 : Err Hc a3 (Cs 3) := (e3.same ((s9.trans (s10.trans (s11.trans ((Same.new nq1).trans (s12.trans (s13.trans (s14.trans (s15.trans s16)))))))).trans S)).err
    have E4 : Err Hc a4 (Cs 4) := (e4.same ((s10.trans (s11.trans ((Same.new nq1).trans (s12.trans (s13.trans (s14.trans (s15.trans s16))))))).trans S)).err
    have E5 : Err Hc a5 (Cs 5) := (e5.same ((s11.trans ((Same.new nq1).trans (s12.trans (s13.trans (s14.trans (s15.trans s16)))))).trans S)).err
    have E6 : Err Hc a6 (Cs 6) := (e6.same (((Same.new nq1).trans (s12.trans (s13.trans (s14.trans (s15.trans s16))))).trans S)).err
    have E7 : Err Hc a7 (Cs 7) := (e7.same ((s13.trans (s14.trans (s15.trans s16))).trans S)).err
    have E8 : Err Hc a8 (Cs 8) := (e8.same ((s14.trans (s15.trans s16)).trans S)).err
    have E9 : Err Hc a9 (Cs 9) := (e9.same ((s15.trans s16).trans S)).err
    have E10 : Err Hc a10 (Cs 10) := (e10.same (s16.trans S)).err
    have E11 : Err Hc a11 (Cs 11) := (e11.same S).err
    have E12 : Err Hc a12 (Cs 12) := (e12.same (((Same.new n1).trans ((Same.new n2).trans ((Same.new n3).trans (s7.trans (s8.trans (s9.trans (s10.trans (s11.trans ((Same.new nq1).trans (s12.trans (s13.trans (s14.trans (s15.trans s16))))))))))))).trans S)).err
    have item : ∀ i, i < 15 → ∃ (b C : Addr), ([.ref a0, .ref a1, .ref a2, .ref a3, .ref a4, .ref a5, .ref a6, .ref a7, .ref a8, .ref a9, .ref a10, .ref a11, .ref a12, .ref a13, .ref a14] : List V)[i]? = some (.ref b) ∧ Err Hc b C ∧ Kd K CY Cs C i := fun i hi => by
      match i, hi with
      | 0, _ => exact ⟨a0, Cs 0, rfl, E0, T.kd 0 (by decide)⟩
      | 1, _ => exact ⟨a1, Cs 1, rfl, E1, T.kd 1 (by decide)⟩
      | 2, _ => exact ⟨a2, Cs 2, rfl, E2, T.kd 2 (by decide)⟩
      | 3, _ => exact ⟨a3, Cs 3, rfl, E3, T.kd 3 (by decide)⟩
      | 4, _ => exact ⟨a4, Cs 4, rfl, E4, T.kd 4 (by decide)⟩
      | 5, _ => exact ⟨a5, Cs 5, rfl, E5, T.kd 5 (by decide)⟩
      | 6, _ => exact ⟨a6, Cs 6, rfl, E6, T.kd 6 (by decide)⟩
      | 7, _ => exact ⟨a7, Cs 7, rfl, E7, T.kd 7 (by decide)⟩
      | 8, _ => exact ⟨a8, Cs 8, rfl, E8, T.kd 8 (by decide)⟩
      | 9, _ => exact ⟨a9, Cs 9, rfl, E9, T.kd 9 (by decide)⟩
      | 10, _ => exact ⟨a10, Cs 10, rfl, E10, T.kd 10 (by decide)⟩
      | 11, _ => exact ⟨a11, Cs 11, rfl, E11, T.kd 11 (by decide)⟩
      | 12, _ => exact ⟨a12, Cs 12, rfl, E12, T.kd 12 (by decide)⟩
      | 13, _ => exact ⟨a13, Cs 13, rfl, E13, T.kd 13 (by decide)⟩
      | 14, _ => exact ⟨a14, Cs 14, rfl, E14, T.kd 14 (by decide)⟩
      | i + 15, hi => omega
    refine ⟨15, rfl, by decide, by decide, for_range (lo := 0) (n := 15) (fun i σ H' => (∃ v, σ = [some (.ref a), some (.ref p), some one, some two, some (.ref a1), some (.ref a2), some (.ref a12), some (.ref l4), some (.ref a0), some (.ref a3), some (.ref a4), some (.ref a5), some (.ref a6), some (.ref a7), some (.ref a8), some (.ref a9), some (.ref a10), some (.ref a11), some (.ref l11), v, none]) ∧ Same Hc H') ⟨⟨none, rfl⟩, Same.refl Hc⟩ ?_ ?_⟩
    · rintro i σ H9 hi ⟨⟨v, rfl⟩, sH⟩
      obtain ⟨b, C, hb, er, kd⟩ := item i hi
      refine ⟨_, rfl, _, rfl, l11, _, _, _, rfl, rfl, SqL.of (sH _ _ errs), (by rw [Int.zero_add]; exact atI_nat hb), ?_⟩
      refine ⟨b, C, i, rfl, er.same sH, kd, fun l Hl sl el => ?_⟩
      refine ⟨15, rfl, by decide, by decide, fun D hD => ?_⟩
      refine lcp_range (f := fun k => V.bl (decide (k = i))) hD (by decide) (fun k Hk R hk sk hR => ?_) ?_
      · refine ⟨rfl, _, rfl, _, rfl, rfl, ?_⟩
        rw [deq k i]
        exact hR
      · refine ⟨l, D, _, rfl, rfl, SqL.of ((Same.new hD) _ _ el), SqL.of upd_same, allB, _, rfl, iteF ?_⟩
        exact ⟨⟨_, rfl⟩, (sH.trans sl).trans (Same.new hD)⟩
    · rintro σ H9 ⟨⟨v, rfl⟩, sH⟩
      refine fun y1 m8 => ⟨y1, CY, _, _, true, rfl, ClsV.ty _, T.kY.1, .inl upd_same, T.kY.2.2.1, true, rfl, iteT fun y2 m9 => ?_⟩
      refine ⟨y2, CY, 15, rfl, .inl upd_same, T.kY, fun l Hl sl el => ?_⟩
      refine ⟨(by show 1 ≤ sizeLine; decide), fun l20 n20 => ⟨l20, 15, [.bl false], rfl, rfl, upd_same, by decide, by decide, (by show 1 * 15 ≤ sizeLine; decide), fun l21 n21 => ?_⟩⟩
      refine ⟨l, l21, _, rfl, rfl, SqL.of ((Same.new n21) _ _ ((Same.new n20) _ _ el)), SqL.of upd_same, rfl, k _⟩
end
end Y
set_option Elab.async false
set_option linter.all false
set_option maxRecDepth 100000
set_option maxHeartbeats 4000000
namespace Y
open PySem L2
/-! ### what the class's own line tells -/
theorem cls_at {K : PySem.W.Frag} {C N : Addr} {nm q : Str} {bs bm : List Value} {sn : List Str} {sub : List Value} {ab : Bool} {col : Option Bool} {dd : Option Addr} {u v w y z : Option Value}
    (l : K.lookup C = some (excClassObj nm q C N bs bm true sn sub ab col dd u v w y z "ValueError.__new__")) : PySem.W.clsIn K C = some { name := nm, bases := bs, mro := .ref C :: bm, ns := N, qualname := q, hasDict := true, slotNames := sn, subclasses := sub, abstract := ab, collection := col, hasDel := false } := by
  unfold PySem.W.clsIn
  rw [l] <;> rfl
structure Ln (K : PySem.W.Frag) (C : Addr) (bm : List Value) : Prop where
  c : ∃ cd : ClassData, PySem.W.clsIn K C = some cd ∧ cd.mro = .ref C :: bm
  t : PySem.W.typeIn K (.ref C) = some (.type "type")
theorem ln_of {K : PySem.W.Frag} {C N : Addr} {nm q : Str} {bs bm : List Value} {sn : List Str} {sub : List Value} {ab : Bool} {col : Option Bool} {dd : Option Addr} {u v w y z : Option Value}
    (l : K.lookup C = some (excClassObj nm q C N bs bm true sn sub ab col dd u v w y z "ValueError.__new__")) : Ln K C bm :=
  ⟨⟨_, cls_at l, rfl⟩, by
    show Option.map (fun x : Obj => x.cls) (K.lookup C) = _
    rw [l] <;> rfl⟩
theorem Ln.mro {K : PySem.W.Frag} {C : Addr} {bm : List Value} (h : Ln K C bm) (X : Value) : PySem.W.mroIn K C X = some ((Value.ref C :: bm).contains X) := by
  obtain ⟨cd, e, m⟩ := h.c
  unfold PySem.W.mroIn
  rw [e, Option.bind_some, m]
  rfl
theorem Ln.sub {K : PySem.W.Frag} {C : Addr} {bm : List Value} (h : Ln K C bm) (X : Value) : PySem.W.subIn K (.ref C) X = some ((Value.ref C :: bm).contains X) := h.mro X
theorem Ln.cls {K : PySem.W.Frag} {C : Addr} {bm : List Value} (h : Ln K C bm) : PySem.W.isClsIn K C = true := by
  obtain ⟨cd, e, m⟩ := h.c
  unfold PySem.W.isClsIn
  rw [e]
  rfl
theorem ref_beq (a b : Addr) : (Value.ref a == Value.ref b) = decide (a = b) := by
  by_cases h : a = b
  · rw [h, decide_eq_true rfl]
    exact beq_self_eq_true _
  · rw [decide_eq_false h]
    exact beq_eq_false_iff_ne.mpr fun e => h (by injection e)
theorem Ln.kit {K : PySem.W.Frag} {C D : Addr} {bm bm2 : List Value} (h : Ln K C bm) (g : Ln K D bm2) : PySem.W.kitOne K (.ref C) (.ref D) = some ((Value.ref C :: bm).contains (.ref D)) := by
  unfold PySem.W.kitOne
  by_cases e : C = D
  · subst e
    rw [if_pos (beq_self_eq_true _), List.contains_cons, beq_self_eq_true]
    rfl
  · rw [if_neg (by rw [ref_beq, decide_eq_false e]; exact Bool.false_ne_true)]
    have e2 : ((PySem.W.clsIn K D).isSome && PySem.W.typeIn K (.ref D) == some (.type "type")) = true := by
      have := g.cls
      unfold PySem.W.isClsIn at this
      rw [this, g.t] <;> rfl
    show (if ((PySem.W.clsIn K D).isSome && PySem.W.typeIn K (.ref D) == some (.type "type")) = true then PySem.W.subIn K (.ref C) (.ref D) else none) = _
    rw [if_pos e2, h.sub]
theorem Ln.kitVE {K : PySem.W.Frag} {C : Addr} {bm : List Value} (h : Ln K C bm) (e : bm.contains (.type "ValueError") = true) : PySem.W.kitOne K (.ref C) (.type "ValueError") = some true := by
  unfold PySem.W.kitOne
  rw [if_neg (fun e => by have := eq_of_beq e; cases this)]
  show (if PySem.W.kitMeta "ValueError" = true then PySem.W.subIn K (.ref C) (.type "ValueError") else none) = _
  rw [if_pos (by decide +kernel), h.sub, List.contains_cons, e, Bool.or_true]
theorem under {CY : Addr} {l : List Value} {X : Value} (h : l.contains X = true) : (Value.ref CY :: l).contains X = true := by rw [List.contains_cons, h, Bool.or_true]
def csOf (l : List Addr) (i : Nat) : Addr := l.getD i 0
def veT : List Value := [.type "ValueError", .type "Exception", .type "BaseException", .type "object"]
theorem Ln.xi {K : PySem.W.Frag} {C : Addr} {bm : List Value} (h : Ln K C bm) (hb : bm.contains (.type "BaseException") = true) (ho : bm.contains (.type "object") = true)
    (ga : PySem.W.findIn K (.ref C) "__getattribute__" = some (some (.builtin "BaseException.__getattribute__"))) (gg : PySem.W.findIn K (.ref C) "__getattr__" = some none) (gc : PySem.W.findIn K (.ref C) "__class__" = some (some (.builtin "object.__class__")))
    (q8 : PySem.W.specialIn K (.builtin "object.__class__") "__get__" = some (some (.builtin "getset_descriptor.__get__"))) (q9 : PySem.W.takesIn K (.builtin "object.__class__") = some true) : XiC K C :=
  ⟨h.cls, ga, gg, by rw [h.sub, List.contains_cons, hb, Bool.or_true], gc, q8, q9, by rw [h.mro, List.contains_cons, ho, Bool.or_true]⟩
/-- an own class under the one at CY is of its own kind alone -/
theorem kd_own {K : PySem.W.Frag} {CY : Addr} {Cs : Nat → Addr} {i : Nat} (hi : i < 15) (ln : ∀ j, j < 15 → Ln K (Cs j) (.ref CY :: veT)) (lY : Ln K CY veT) (nd : ∀ i, i < 15 → ∀ j, j < 15 → Cs i = Cs j → i = j) (nY : ∀ i, i < 15 → Cs i ≠ CY)
    (xi : XiC K (Cs i)) : Kd K CY Cs (Cs i) i := by
  refine ⟨xi, ?_, (ln i hi).kitVE (under (by decide)), fun j hj => ?_⟩
  · rw [(ln i hi).kit lY, List.contains_cons, List.contains_cons, beq_self_eq_true, Bool.true_or, Bool.or_true]
  · rw [(ln i hi).kit (ln j hj), List.contains_cons, List.contains_cons, ref_beq, ref_beq, decide_eq_false (nY j hj), Bool.false_or]
    have e : veT.contains (Value.ref (Cs j)) = false := rfl
    rw [e, Bool.or_false]
    congr 1
    rw [Bool.eq_iff_iff, decide_eq_true_iff, decide_eq_true_iff]
    exact ⟨nd j hj i hi, fun e => by rw [e]⟩
theorem kd_top {K : PySem.W.Frag} {CY : Addr} {Cs : Nat → Addr} (ln : ∀ j, j < 15 → Ln K (Cs j) (.ref CY :: veT)) (lY : Ln K CY veT) (nY : ∀ i, i < 15 → Cs i ≠ CY) (xi : XiC K CY) : Kd K CY Cs CY 15 := by
  refine ⟨xi, ?_, lY.kitVE (by decide), fun j hj => ?_⟩
  · rw [lY.kit lY, List.contains_cons, beq_self_eq_true, Bool.true_or]
  · rw [lY.kit (ln j hj), List.contains_cons, ref_beq, decide_eq_false (nY j hj), Bool.false_or]
    have e : veT.contains (Value.ref (Cs j)) = false := rfl
    rw [e, decide_eq_false (show ¬ j = 15 by omega)]
theorem all_mk {P : Program} {w : World} {K : PySem.W.Frag} {h : Heap} {mg : Str → Option Value} {fa CY C0 C1 C2 C3 C4 C5 C6 C7 C8 C9 C10 C11 C12 C13 C14 fI0 fI1 fI2 fI3 fI4 fI5 fI6 fI7 fI8 fI9 fI10 fI11 fI12 fF0 fF1 fF2 fF3 fF4 : Addr} (X : K.In h) (G : h.Ns mainGlobals mg) (hfa : mg "law" = some (.ref fa))
    {nmY qY nm0 q0 nm1 q1 nm2 q2 nm3 q3 nm4 q4 nm5 q5 nm6 q6 nm7 q7 nm8 q8 nm9 q9 nm10 q10 nm11 q11 nm12 q12 nm13 q13 nm14 q14 : Str} {NY N0 N1 N2 N3 N4 N5 N6 N7 N8 N9 N10 N11 N12 N13 N14 : Addr} {bsY subY bs0 sub0 bs1 sub1 bs2 sub2 bs3 sub3 bs4 sub4 bs5 sub5 bs6 sub6 bs7 sub7 bs8 sub8 bs9 sub9 bs10 sub10 bs11 sub11 bs12 sub12 bs13 sub13 bs14 sub14 : List Value} {snY sn0 sn1 sn2 sn3 sn4 sn5 sn6 sn7 sn8 sn9 sn10 sn11 sn12 sn13 sn14 : List Str} {abY ab0 ab1 ab2 ab3 ab4 ab5 ab6 ab7 ab8 ab9 ab10 ab11 ab12 ab13 ab14 : Bool} {colY col0 col1 col2 col3 col4 col5 col6 col7 col8 col9 col10 col11 col12 col13 col14 : Option Bool} {ddY dd0 dd1 dd2 dd3 dd4 dd5 dd6 dd7 dd8 dd9 dd10 dd11 dd12 dd13 dd14 : Option Addr} {uY vY wY yY zY u0 v0 w0 y0 z0 u1 v1 w1 y1 z1 u2 v2 w2 y2 z2 u3 v3 w3 y3 z3 u4 v4 w4 y4 z4 u5 v5 w5 y5 z5 u6 v6 w6 y6 z6 u7 v7 w7 y7 z7 u8 v8 w8 y8 z8 u9 v9 w9 y9 z9 u10 v10 w10 y10 z10 u11 v11 w11 y11 z11 u12 v12 w12 y12 z12 u13 v13 w13 y13 z13 u14 v14 w14 y14 z14 : Option Value}
    {odI0 anI0 odI1 anI1 odI2 anI2 odI3 anI3 odI4 anI4 odI5 anI5 odI6 anI6 odI7 anI7 odI8 anI8 odI9 anI9 odI10 anI10 odI11 anI11 odI12 anI12 odF0 anF0 odF1 anF1 odF2 anF2 odF3 anF3 odF4 anF4 : Option Addr} {slI0 slI1 slI2 slI3 slI4 slI5 slI6 slI7 slI8 slI9 slI10 slI11 slI12 slF0 slF1 slF2 slF3 slF4 : Array (Option Value)} {ocI0 kVI0 dcI0 pmI0 cdI0 ctI0 ocI1 kVI1 dcI1 pmI1 cdI1 ctI1 ocI2 kVI2 dcI2 pmI2 cdI2 ctI2 ocI3 kVI3 dcI3 pmI3 cdI3 ctI3 ocI4 kVI4 dcI4 pmI4 cdI4 ctI4 ocI5 kVI5 dcI5 pmI5 cdI5 ctI5 ocI6 kVI6 dcI6 pmI6 cdI6 ctI6 ocI7 kVI7 dcI7 pmI7 cdI7 ctI7 ocI8 kVI8 dcI8 pmI8 cdI8 ctI8 ocI9 kVI9 dcI9 pmI9 cdI9 ctI9 ocI10 kVI10 dcI10 pmI10 cdI10 ctI10 ocI11 kVI11 dcI11 pmI11 cdI11 ctI11 ocI12 kVI12 dcI12 pmI12 cdI12 ctI12 ocF0 kVF0 dcF0 pmF0 cdF0 ctF0 ocF1 kVF1 dcF1 pmF1 cdF1 ctF1 ocF2 kVF2 dcF2 pmF2 cdF2 ctF2 ocF3 kVF3 dcF3 pmF3 cdF3 ctF3 ocF4 kVF4 dcF4 pmF4 cdF4 ctF4 : Value}
    (aY : PySem.W.nsIn K mainGlobals "YardError" = some (some (.ref CY)))
    (xY : K.lookup CY = some (excClassObj nmY qY CY NY bsY [.type "ValueError", .type "Exception", .type "BaseException", .type "object"] true snY subY abY colY ddY uY vY wY yY zY "ValueError.__new__"))
    (gaY : PySem.W.findIn K (.ref CY) "__getattribute__" = some (some (.builtin "BaseException.__getattribute__")))
    (ggY : PySem.W.findIn K (.ref CY) "__getattr__" = some none)
    (kcY : PySem.W.keepIn K (.ref CY) = true)
    (gcY : PySem.W.findIn K (.ref CY) "__class__" = some (some (.builtin "object.__class__")))
    (eY : PySem.W.excIn K CY [.type "ValueError", .type "Exception", .type "BaseException", .type "object"] "ValueError.__new__" = true)
    (a0 : PySem.W.nsIn K mainGlobals "BadText" = some (some (.ref C0)))
    (x0 : K.lookup C0 = some (excClassObj nm0 q0 C0 N0 bs0 [.ref CY, .type "ValueError", .type "Exception", .type "BaseException", .type "object"] true sn0 sub0 ab0 col0 dd0 u0 v0 w0 y0 z0 "ValueError.__new__"))
    (ga0 : PySem.W.findIn K (.ref C0) "__getattribute__" = some (some (.builtin "BaseException.__getattribute__")))
    (gg0 : PySem.W.findIn K (.ref C0) "__getattr__" = some none)
    (kc0 : PySem.W.keepIn K (.ref C0) = true)
    (gc0 : PySem.W.findIn K (.ref C0) "__class__" = some (some (.builtin "object.__class__")))
    (sa0 : PySem.W.findIn K (.ref C0) "__setattr__" = some (some (.builtin "object.__setattr__")))
    (hd0 : PySem.W.hasDictIn K C0 = true)
    (n0 : PySem.W.findIn K (.ref C0) "column" = some none)
    (i0 : PySem.W.findIn K (.ref C0) "__init__" = some (some (.ref fI0)))
    (t0 : PySem.W.typeIn K (.ref fI0) = some (.type "function"))
    (lI0 : K.lookup fI0 = some ⟨ocI0, odI0, .func (PySem.W.fnOf "__init__" "BadText.__init__" (defArgs sI0) (defBody sI0) (defScope sI0) .none kVI0 dcI0 pmI0 anI0 cdI0 ctI0), slI0⟩)
    (cI0 : PySem.W.codeIn K cdI0 "BadText.__init__" = true)
    (kI0 : PySem.W.keepIn K (.ref fI0) = true)
    (a1 : PySem.W.nsIn K mainGlobals "BadLine" = some (some (.ref C1)))
    (x1 : K.lookup C1 = some (excClassObj nm1 q1 C1 N1 bs1 [.ref CY, .type "ValueError", .type "Exception", .type "BaseException", .type "object"] true sn1 sub1 ab1 col1 dd1 u1 v1 w1 y1 z1 "ValueError.__new__"))
    (ga1 : PySem.W.findIn K (.ref C1) "__getattribute__" = some (some (.builtin "BaseException.__getattribute__")))
    (gg1 : PySem.W.findIn K (.ref C1) "__getattr__" = some none)
    (kc1 : PySem.W.keepIn K (.ref C1) = true)
    (gc1 : PySem.W.findIn K (.ref C1) "__class__" = some (some (.builtin "object.__class__")))
    (sa1 : PySem.W.findIn K (.ref C1) "__setattr__" = some (some (.builtin "object.__setattr__")))
    (hd1 : PySem.W.hasDictIn K C1 = true)
    (n1a : PySem.W.findIn K (.ref C1) "line" = some none)
    (n1b : PySem.W.findIn K (.ref C1) "column" = some none)
    (i1 : PySem.W.findIn K (.ref C1) "__init__" = some (some (.ref fI1)))
    (t1 : PySem.W.typeIn K (.ref fI1) = some (.type "function"))
    (lI1 : K.lookup fI1 = some ⟨ocI1, odI1, .func (PySem.W.fnOf "__init__" "BadLine.__init__" (defArgs sI1) (defBody sI1) (defScope sI1) .none kVI1 dcI1 pmI1 anI1 cdI1 ctI1), slI1⟩)
    (cI1 : PySem.W.codeIn K cdI1 "BadLine.__init__" = true)
    (kI1 : PySem.W.keepIn K (.ref fI1) = true)
    (a2 : PySem.W.nsIn K mainGlobals "BadNumber" = some (some (.ref C2)))
    (x2 : K.lookup C2 = some (excClassObj nm2 q2 C2 N2 bs2 [.ref CY, .type "ValueError", .type "Exception", .type "BaseException", .type "object"] true sn2 sub2 ab2 col2 dd2 u2 v2 w2 y2 z2 "ValueError.__new__"))
    (ga2 : PySem.W.findIn K (.ref C2) "__getattribute__" = some (some (.builtin "BaseException.__getattribute__")))
    (gg2 : PySem.W.findIn K (.ref C2) "__getattr__" = some none)
    (kc2 : PySem.W.keepIn K (.ref C2) = true)
    (gc2 : PySem.W.findIn K (.ref C2) "__class__" = some (some (.builtin "object.__class__")))
    (sa2 : PySem.W.findIn K (.ref C2) "__setattr__" = some (some (.builtin "object.__setattr__")))
    (hd2 : PySem.W.hasDictIn K C2 = true)
    (n2a : PySem.W.findIn K (.ref C2) "what" = some none)
    (n2b : PySem.W.findIn K (.ref C2) "number" = some none)
    (i2 : PySem.W.findIn K (.ref C2) "__init__" = some (some (.ref fI2)))
    (t2 : PySem.W.typeIn K (.ref fI2) = some (.type "function"))
    (lI2 : K.lookup fI2 = some ⟨ocI2, odI2, .func (PySem.W.fnOf "__init__" "BadNumber.__init__" (defArgs sI2) (defBody sI2) (defScope sI2) .none kVI2 dcI2 pmI2 anI2 cdI2 ctI2), slI2⟩)
    (cI2 : PySem.W.codeIn K cdI2 "BadNumber.__init__" = true)
    (kI2 : PySem.W.keepIn K (.ref fI2) = true)
    (a3 : PySem.W.nsIn K mainGlobals "BadRow" = some (some (.ref C3)))
    (x3 : K.lookup C3 = some (excClassObj nm3 q3 C3 N3 bs3 [.ref CY, .type "ValueError", .type "Exception", .type "BaseException", .type "object"] true sn3 sub3 ab3 col3 dd3 u3 v3 w3 y3 z3 "ValueError.__new__"))
    (ga3 : PySem.W.findIn K (.ref C3) "__getattribute__" = some (some (.builtin "BaseException.__getattribute__")))
    (gg3 : PySem.W.findIn K (.ref C3) "__getattr__" = some none)
    (kc3 : PySem.W.keepIn K (.ref C3) = true)
    (gc3 : PySem.W.findIn K (.ref C3) "__class__" = some (some (.builtin "object.__class__")))
    (sa3 : PySem.W.findIn K (.ref C3) "__setattr__" = some (some (.builtin "object.__setattr__")))
    (hd3 : PySem.W.hasDictIn K C3 = true)
    (n3 : PySem.W.findIn K (.ref C3) "row" = some none)
    (i3 : PySem.W.findIn K (.ref C3) "__init__" = some (some (.ref fI3)))
    (t3 : PySem.W.typeIn K (.ref fI3) = some (.type "function"))
    (lI3 : K.lookup fI3 = some ⟨ocI3, odI3, .func (PySem.W.fnOf "__init__" "BadRow.__init__" (defArgs sI3) (defBody sI3) (defScope sI3) .none kVI3 dcI3 pmI3 anI3 cdI3 ctI3), slI3⟩)
    (cI3 : PySem.W.codeIn K cdI3 "BadRow.__init__" = true)
    (kI3 : PySem.W.keepIn K (.ref fI3) = true)
    (a4 : PySem.W.nsIn K mainGlobals "BadTie" = some (some (.ref C4)))
    (x4 : K.lookup C4 = some (excClassObj nm4 q4 C4 N4 bs4 [.ref CY, .type "ValueError", .type "Exception", .type "BaseException", .type "object"] true sn4 sub4 ab4 col4 dd4 u4 v4 w4 y4 z4 "ValueError.__new__"))
    (ga4 : PySem.W.findIn K (.ref C4) "__getattribute__" = some (some (.builtin "BaseException.__getattribute__")))
    (gg4 : PySem.W.findIn K (.ref C4) "__getattr__" = some none)
    (kc4 : PySem.W.keepIn K (.ref C4) = true)
    (gc4 : PySem.W.findIn K (.ref C4) "__class__" = some (some (.builtin "object.__class__")))
    (sa4 : PySem.W.findIn K (.ref C4) "__setattr__" = some (some (.builtin "object.__setattr__")))
    (hd4 : PySem.W.hasDictIn K C4 = true)
    (n4 : PySem.W.findIn K (.ref C4) "tie" = some none)
    (i4 : PySem.W.findIn K (.ref C4) "__init__" = some (some (.ref fI4)))
    (t4 : PySem.W.typeIn K (.ref fI4) = some (.type "function"))
    (lI4 : K.lookup fI4 = some ⟨ocI4, odI4, .func (PySem.W.fnOf "__init__" "BadTie.__init__" (defArgs sI4) (defBody sI4) (defScope sI4) .none kVI4 dcI4 pmI4 anI4 cdI4 ctI4), slI4⟩)
    (cI4 : PySem.W.codeIn K cdI4 "BadTie.__init__" = true)
    (kI4 : PySem.W.keepIn K (.ref fI4) = true)
    (a5 : PySem.W.nsIn K mainGlobals "BadRing" = some (some (.ref C5)))
    (x5 : K.lookup C5 = some (excClassObj nm5 q5 C5 N5 bs5 [.ref CY, .type "ValueError", .type "Exception", .type "BaseException", .type "object"] true sn5 sub5 ab5 col5 dd5 u5 v5 w5 y5 z5 "ValueError.__new__"))
    (ga5 : PySem.W.findIn K (.ref C5) "__getattribute__" = some (some (.builtin "BaseException.__getattribute__")))
    (gg5 : PySem.W.findIn K (.ref C5) "__getattr__" = some none)
    (kc5 : PySem.W.keepIn K (.ref C5) = true)
    (gc5 : PySem.W.findIn K (.ref C5) "__class__" = some (some (.builtin "object.__class__")))
    (sa5 : PySem.W.findIn K (.ref C5) "__setattr__" = some (some (.builtin "object.__setattr__")))
    (hd5 : PySem.W.hasDictIn K C5 = true)
    (n5 : PySem.W.findIn K (.ref C5) "index" = some none)
    (i5 : PySem.W.findIn K (.ref C5) "__init__" = some (some (.ref fI5)))
    (t5 : PySem.W.typeIn K (.ref fI5) = some (.type "function"))
    (lI5 : K.lookup fI5 = some ⟨ocI5, odI5, .func (PySem.W.fnOf "__init__" "BadRing.__init__" (defArgs sI5) (defBody sI5) (defScope sI5) .none kVI5 dcI5 pmI5 anI5 cdI5 ctI5), slI5⟩)
    (cI5 : PySem.W.codeIn K cdI5 "BadRing.__init__" = true)
    (kI5 : PySem.W.keepIn K (.ref fI5) = true)
    (a6 : PySem.W.nsIn K mainGlobals "BadMove" = some (some (.ref C6)))
    (x6 : K.lookup C6 = some (excClassObj nm6 q6 C6 N6 bs6 [.ref CY, .type "ValueError", .type "Exception", .type "BaseException", .type "object"] true sn6 sub6 ab6 col6 dd6 u6 v6 w6 y6 z6 "ValueError.__new__"))
    (ga6 : PySem.W.findIn K (.ref C6) "__getattribute__" = some (some (.builtin "BaseException.__getattribute__")))
    (gg6 : PySem.W.findIn K (.ref C6) "__getattr__" = some none)
    (kc6 : PySem.W.keepIn K (.ref C6) = true)
    (gc6 : PySem.W.findIn K (.ref C6) "__class__" = some (some (.builtin "object.__class__")))
    (sa6 : PySem.W.findIn K (.ref C6) "__setattr__" = some (some (.builtin "object.__setattr__")))
    (hd6 : PySem.W.hasDictIn K C6 = true)
    (n6 : PySem.W.findIn K (.ref C6) "index" = some none)
    (i6 : PySem.W.findIn K (.ref C6) "__init__" = some (some (.ref fI6)))
    (t6 : PySem.W.typeIn K (.ref fI6) = some (.type "function"))
    (lI6 : K.lookup fI6 = some ⟨ocI6, odI6, .func (PySem.W.fnOf "__init__" "BadMove.__init__" (defArgs sI6) (defBody sI6) (defScope sI6) .none kVI6 dcI6 pmI6 anI6 cdI6 ctI6), slI6⟩)
    (cI6 : PySem.W.codeIn K cdI6 "BadMove.__init__" = true)
    (kI6 : PySem.W.keepIn K (.ref fI6) = true)
    (a7 : PySem.W.nsIn K mainGlobals "BadName" = some (some (.ref C7)))
    (x7 : K.lookup C7 = some (excClassObj nm7 q7 C7 N7 bs7 [.ref CY, .type "ValueError", .type "Exception", .type "BaseException", .type "object"] true sn7 sub7 ab7 col7 dd7 u7 v7 w7 y7 z7 "ValueError.__new__"))
    (ga7 : PySem.W.findIn K (.ref C7) "__getattribute__" = some (some (.builtin "BaseException.__getattribute__")))
    (gg7 : PySem.W.findIn K (.ref C7) "__getattr__" = some none)
    (kc7 : PySem.W.keepIn K (.ref C7) = true)
    (gc7 : PySem.W.findIn K (.ref C7) "__class__" = some (some (.builtin "object.__class__")))
    (sa7 : PySem.W.findIn K (.ref C7) "__setattr__" = some (some (.builtin "object.__setattr__")))
    (hd7 : PySem.W.hasDictIn K C7 = true)
    (n7 : PySem.W.findIn K (.ref C7) "name" = some none)
    (i7 : PySem.W.findIn K (.ref C7) "__init__" = some (some (.ref fI7)))
    (t7 : PySem.W.typeIn K (.ref fI7) = some (.type "function"))
    (lI7 : K.lookup fI7 = some ⟨ocI7, odI7, .func (PySem.W.fnOf "__init__" "BadName.__init__" (defArgs sI7) (defBody sI7) (defScope sI7) .none kVI7 dcI7 pmI7 anI7 cdI7 ctI7), slI7⟩)
    (cI7 : PySem.W.codeIn K cdI7 "BadName.__init__" = true)
    (kI7 : PySem.W.keepIn K (.ref fI7) = true)
    (a8 : PySem.W.nsIn K mainGlobals "NoName" = some (some (.ref C8)))
    (x8 : K.lookup C8 = some (excClassObj nm8 q8 C8 N8 bs8 [.ref CY, .type "ValueError", .type "Exception", .type "BaseException", .type "object"] true sn8 sub8 ab8 col8 dd8 u8 v8 w8 y8 z8 "ValueError.__new__"))
    (ga8 : PySem.W.findIn K (.ref C8) "__getattribute__" = some (some (.builtin "BaseException.__getattribute__")))
    (gg8 : PySem.W.findIn K (.ref C8) "__getattr__" = some none)
    (kc8 : PySem.W.keepIn K (.ref C8) = true)
    (gc8 : PySem.W.findIn K (.ref C8) "__class__" = some (some (.builtin "object.__class__")))
    (sa8 : PySem.W.findIn K (.ref C8) "__setattr__" = some (some (.builtin "object.__setattr__")))
    (hd8 : PySem.W.hasDictIn K C8 = true)
    (n8 : PySem.W.findIn K (.ref C8) "name" = some none)
    (i8 : PySem.W.findIn K (.ref C8) "__init__" = some (some (.ref fI8)))
    (t8 : PySem.W.typeIn K (.ref fI8) = some (.type "function"))
    (lI8 : K.lookup fI8 = some ⟨ocI8, odI8, .func (PySem.W.fnOf "__init__" "NoName.__init__" (defArgs sI8) (defBody sI8) (defScope sI8) .none kVI8 dcI8 pmI8 anI8 cdI8 ctI8), slI8⟩)
    (cI8 : PySem.W.codeIn K cdI8 "NoName.__init__" = true)
    (kI8 : PySem.W.keepIn K (.ref fI8) = true)
    (a9 : PySem.W.nsIn K mainGlobals "TakenName" = some (some (.ref C9)))
    (x9 : K.lookup C9 = some (excClassObj nm9 q9 C9 N9 bs9 [.ref CY, .type "ValueError", .type "Exception", .type "BaseException", .type "object"] true sn9 sub9 ab9 col9 dd9 u9 v9 w9 y9 z9 "ValueError.__new__"))
    (ga9 : PySem.W.findIn K (.ref C9) "__getattribute__" = some (some (.builtin "BaseException.__getattribute__")))
    (gg9 : PySem.W.findIn K (.ref C9) "__getattr__" = some none)
    (kc9 : PySem.W.keepIn K (.ref C9) = true)
    (gc9 : PySem.W.findIn K (.ref C9) "__class__" = some (some (.builtin "object.__class__")))
    (sa9 : PySem.W.findIn K (.ref C9) "__setattr__" = some (some (.builtin "object.__setattr__")))
    (hd9 : PySem.W.hasDictIn K C9 = true)
    (n9 : PySem.W.findIn K (.ref C9) "name" = some none)
    (i9 : PySem.W.findIn K (.ref C9) "__init__" = some (some (.ref fI9)))
    (t9 : PySem.W.typeIn K (.ref fI9) = some (.type "function"))
    (lI9 : K.lookup fI9 = some ⟨ocI9, odI9, .func (PySem.W.fnOf "__init__" "TakenName.__init__" (defArgs sI9) (defBody sI9) (defScope sI9) .none kVI9 dcI9 pmI9 anI9 cdI9 ctI9), slI9⟩)
    (cI9 : PySem.W.codeIn K cdI9 "TakenName.__init__" = true)
    (kI9 : PySem.W.keepIn K (.ref fI9) = true)
    (a10 : PySem.W.nsIn K mainGlobals "Unlike" = some (some (.ref C10)))
    (x10 : K.lookup C10 = some (excClassObj nm10 q10 C10 N10 bs10 [.ref CY, .type "ValueError", .type "Exception", .type "BaseException", .type "object"] true sn10 sub10 ab10 col10 dd10 u10 v10 w10 y10 z10 "ValueError.__new__"))
    (ga10 : PySem.W.findIn K (.ref C10) "__getattribute__" = some (some (.builtin "BaseException.__getattribute__")))
    (gg10 : PySem.W.findIn K (.ref C10) "__getattr__" = some none)
    (kc10 : PySem.W.keepIn K (.ref C10) = true)
    (gc10 : PySem.W.findIn K (.ref C10) "__class__" = some (some (.builtin "object.__class__")))
    (sa10 : PySem.W.findIn K (.ref C10) "__setattr__" = some (some (.builtin "object.__setattr__")))
    (hd10 : PySem.W.hasDictIn K C10 = true)
    (n10 : PySem.W.findIn K (.ref C10) "what" = some none)
    (i10 : PySem.W.findIn K (.ref C10) "__init__" = some (some (.ref fI10)))
    (t10 : PySem.W.typeIn K (.ref fI10) = some (.type "function"))
    (lI10 : K.lookup fI10 = some ⟨ocI10, odI10, .func (PySem.W.fnOf "__init__" "Unlike.__init__" (defArgs sI10) (defBody sI10) (defScope sI10) .none kVI10 dcI10 pmI10 anI10 cdI10 ctI10), slI10⟩)
    (cI10 : PySem.W.codeIn K cdI10 "Unlike.__init__" = true)
    (kI10 : PySem.W.keepIn K (.ref fI10) = true)
    (a11 : PySem.W.nsIn K mainGlobals "TooMany" = some (some (.ref C11)))
    (x11 : K.lookup C11 = some (excClassObj nm11 q11 C11 N11 bs11 [.ref CY, .type "ValueError", .type "Exception", .type "BaseException", .type "object"] true sn11 sub11 ab11 col11 dd11 u11 v11 w11 y11 z11 "ValueError.__new__"))
    (ga11 : PySem.W.findIn K (.ref C11) "__getattribute__" = some (some (.builtin "BaseException.__getattribute__")))
    (gg11 : PySem.W.findIn K (.ref C11) "__getattr__" = some none)
    (kc11 : PySem.W.keepIn K (.ref C11) = true)
    (gc11 : PySem.W.findIn K (.ref C11) "__class__" = some (some (.builtin "object.__class__")))
    (sa11 : PySem.W.findIn K (.ref C11) "__setattr__" = some (some (.builtin "object.__setattr__")))
    (hd11 : PySem.W.hasDictIn K C11 = true)
    (n11 : PySem.W.findIn K (.ref C11) "most" = some none)
    (i11 : PySem.W.findIn K (.ref C11) "__init__" = some (some (.ref fI11)))
    (t11 : PySem.W.typeIn K (.ref fI11) = some (.type "function"))
    (lI11 : K.lookup fI11 = some ⟨ocI11, odI11, .func (PySem.W.fnOf "__init__" "TooMany.__init__" (defArgs sI11) (defBody sI11) (defScope sI11) .none kVI11 dcI11 pmI11 anI11 cdI11 ctI11), slI11⟩)
    (cI11 : PySem.W.codeIn K cdI11 "TooMany.__init__" = true)
    (kI11 : PySem.W.keepIn K (.ref fI11) = true)
    (a12 : PySem.W.nsIn K mainGlobals "NotKept" = some (some (.ref C12)))
    (x12 : K.lookup C12 = some (excClassObj nm12 q12 C12 N12 bs12 [.ref CY, .type "ValueError", .type "Exception", .type "BaseException", .type "object"] true sn12 sub12 ab12 col12 dd12 u12 v12 w12 y12 z12 "ValueError.__new__"))
    (ga12 : PySem.W.findIn K (.ref C12) "__getattribute__" = some (some (.builtin "BaseException.__getattribute__")))
    (gg12 : PySem.W.findIn K (.ref C12) "__getattr__" = some none)
    (kc12 : PySem.W.keepIn K (.ref C12) = true)
    (gc12 : PySem.W.findIn K (.ref C12) "__class__" = some (some (.builtin "object.__class__")))
    (sa12 : PySem.W.findIn K (.ref C12) "__setattr__" = some (some (.builtin "object.__setattr__")))
    (hd12 : PySem.W.hasDictIn K C12 = true)
    (n12a : PySem.W.findIn K (.ref C12) "promise" = some none)
    (n12b : PySem.W.findIn K (.ref C12) "witness" = some none)
    (i12 : PySem.W.findIn K (.ref C12) "__init__" = some (some (.ref fI12)))
    (t12 : PySem.W.typeIn K (.ref fI12) = some (.type "function"))
    (lI12 : K.lookup fI12 = some ⟨ocI12, odI12, .func (PySem.W.fnOf "__init__" "NotKept.__init__" (defArgs sI12) (defBody sI12) (defScope sI12) .none kVI12 dcI12 pmI12 anI12 cdI12 ctI12), slI12⟩)
    (cI12 : PySem.W.codeIn K cdI12 "NotKept.__init__" = true)
    (kI12 : PySem.W.keepIn K (.ref fI12) = true)
    (a13 : PySem.W.nsIn K mainGlobals "NothingToUndo" = some (some (.ref C13)))
    (x13 : K.lookup C13 = some (excClassObj nm13 q13 C13 N13 bs13 [.ref CY, .type "ValueError", .type "Exception", .type "BaseException", .type "object"] true sn13 sub13 ab13 col13 dd13 u13 v13 w13 y13 z13 "ValueError.__new__"))
    (ga13 : PySem.W.findIn K (.ref C13) "__getattribute__" = some (some (.builtin "BaseException.__getattribute__")))
    (gg13 : PySem.W.findIn K (.ref C13) "__getattr__" = some none)
    (kc13 : PySem.W.keepIn K (.ref C13) = true)
    (gc13 : PySem.W.findIn K (.ref C13) "__class__" = some (some (.builtin "object.__class__")))
    (e13 : PySem.W.excIn K C13 [.type "ValueError", .type "Exception", .type "BaseException", .type "object"] "ValueError.__new__" = true)
    (a14 : PySem.W.nsIn K mainGlobals "NothingToRedo" = some (some (.ref C14)))
    (x14 : K.lookup C14 = some (excClassObj nm14 q14 C14 N14 bs14 [.ref CY, .type "ValueError", .type "Exception", .type "BaseException", .type "object"] true sn14 sub14 ab14 col14 dd14 u14 v14 w14 y14 z14 "ValueError.__new__"))
    (ga14 : PySem.W.findIn K (.ref C14) "__getattribute__" = some (some (.builtin "BaseException.__getattribute__")))
    (gg14 : PySem.W.findIn K (.ref C14) "__getattr__" = some none)
    (kc14 : PySem.W.keepIn K (.ref C14) = true)
    (gc14 : PySem.W.findIn K (.ref C14) "__class__" = some (some (.builtin "object.__class__")))
    (e14 : PySem.W.excIn K C14 [.type "ValueError", .type "Exception", .type "BaseException", .type "object"] "ValueError.__new__" = true)
    (gs8 : PySem.W.specialIn K (.builtin "object.__class__") "__get__" = some (some (.builtin "getset_descriptor.__get__")))
    (gs9 : PySem.W.takesIn K (.builtin "object.__class__") = some true)
    (aF0 : PySem.W.nsIn K mainGlobals "_law_pen" = some (some (.ref fF0)))
    (lF0 : K.lookup fF0 = some ⟨ocF0, odF0, .func (PySem.W.fnOf "_law_pen" "_law_pen" (defArgs sPen) (defBody sPen) (defScope sPen) .none kVF0 dcF0 pmF0 anF0 cdF0 ctF0), slF0⟩)
    (cF0 : PySem.W.codeIn K cdF0 "_law_pen" = true)
    (kF0 : PySem.W.keepIn K (.ref fF0) = true)
    (aF1 : PySem.W.nsIn K mainGlobals "_law_draw" = some (some (.ref fF1)))
    (lF1 : K.lookup fF1 = some ⟨ocF1, odF1, .func (PySem.W.fnOf "_law_draw" "_law_draw" (defArgs sDraw) (defBody sDraw) (defScope sDraw) .none kVF1 dcF1 pmF1 anF1 cdF1 ctF1), slF1⟩)
    (cF1 : PySem.W.codeIn K cdF1 "_law_draw" = true)
    (kF1 : PySem.W.keepIn K (.ref fF1) = true)
    (aF2 : PySem.W.nsIn K mainGlobals "_law_pick" = some (some (.ref fF2)))
    (lF2 : K.lookup fF2 = some ⟨ocF2, odF2, .func (PySem.W.fnOf "_law_pick" "_law_pick" (defArgs sPick) (defBody sPick) (defScope sPick) .none kVF2 dcF2 pmF2 anF2 cdF2 ctF2), slF2⟩)
    (cF2 : PySem.W.codeIn K cdF2 "_law_pick" = true)
    (kF2 : PySem.W.keepIn K (.ref fF2) = true)
    (aF3 : PySem.W.nsIn K mainGlobals "_law_kinds" = some (some (.ref fF3)))
    (lF3 : K.lookup fF3 = some ⟨ocF3, odF3, .func (PySem.W.fnOf "_law_kinds" "_law_kinds" (defArgs sKinds) (defBody sKinds) (defScope sKinds) .none kVF3 dcF3 pmF3 anF3 cdF3 ctF3), slF3⟩)
    (cF3 : PySem.W.codeIn K cdF3 "_law_kinds" = true)
    (kF3 : PySem.W.keepIn K (.ref fF3) = true)
    (aF4 : PySem.W.nsIn K mainGlobals "law" = some (some (.ref fF4)))
    (lF4 : K.lookup fF4 = some ⟨ocF4, odF4, .func (PySem.W.fnOf "law" "law" (defArgs sLaw) (defBody sLaw) (defScope sLaw) .none kVF4 dcF4 pmF4 anF4 cdF4 ctF4), slF4⟩)
    (cF4 : PySem.W.codeIn K cdF4 "law" = true)
    (kF4 : PySem.W.keepIn K (.ref fF4) = true)
    (z00 : PySem.W.nsIn K mainGlobals "isinstance" = some none)
    (z01 : PySem.W.nsIn K mainGlobals "range" = some none)
    (z02 : PySem.W.nsIn K mainGlobals "ValueError" = some none)
    (z03 : PySem.W.nsIn K mainGlobals "int" = some none)
    (z04 : PySem.W.nsIn K mainGlobals "list" = some none)
    (z05 : PySem.W.nsIn K mainGlobals "len" = some none)
    (nd : ∀ i, i < 15 → ∀ j, j < 15 → csOf [C0, C1, C2, C3, C4, C5, C6, C7, C8, C9, C10, C11, C12, C13, C14] i = csOf [C0, C1, C2, C3, C4, C5, C6, C7, C8, C9, C10, C11, C12, C13, C14] j → i = j)
    (nY : ∀ i, i < 15 → csOf [C0, C1, C2, C3, C4, C5, C6, C7, C8, C9, C10, C11, C12, C13, C14] i ≠ CY) :
    ∃ fd : FuncData, (∀ (s : Shared) (v : Value), BindsTo s fd ⟨[v], []⟩ [("_law_script", v)]) ∧ ∀ base : Heap, K.In base → base.Ns mainGlobals mg → FnOk P w K mg base CX0 3 fa fd ["_law_script"] (spLaw K) := by
  have e := hfa.symm.trans (PySem.W.mg_of X G aF4)
  cases e
  have lY : Ln K CY veT := ln_of xY
  have ln0 : Ln K C0 (.ref CY :: veT) := ln_of x0
  have ln1 : Ln K C1 (.ref CY :: veT) := ln_of x1
  have ln2 : Ln K C2 (.ref CY :: veT) := ln_of x2
  have ln3 : Ln K C3 (.ref CY :: veT) := ln_of x3
  have ln4 : Ln K C4 (.ref CY :: veT) := ln_of x4
  have ln5 : Ln K C5 (.ref CY :: veT) := ln_of x5
  have ln6 : Ln K C6 (.ref CY :: veT) := ln_of x6
  have ln7 : Ln K C7 (.ref CY :: veT) := ln_of x7
  have ln8 : Ln K C8 (.ref CY :: veT) := ln_of x8
  have ln9 : Ln K C9 (.ref CY :: veT) := ln_of x9
  have ln10 : Ln K C10 (.ref CY :: veT) := ln_of x10
  have ln11 : Ln K C11 (.ref CY :: veT) := ln_of x11
  have ln12 : Ln K C12 (.ref CY :: veT) := ln_of x12
  have ln13 : Ln K C13 (.ref CY :: veT) := ln_of x13
  have ln14 : Ln K C14 (.ref CY :: veT) := ln_of x14
  have ln : ∀ j, j < 15 → Ln K ((csOf [C0, C1, C2, C3, C4, C5, C6, C7, C8, C9, C10, C11, C12, C13, C14]) j) (.ref CY :: veT) := fun i hi => match i, hi with | 0, _ => ln0 | 1, _ => ln1 | 2, _ => ln2 | 3, _ => ln3 | 4, _ => ln4 | 5, _ => ln5 | 6, _ => ln6 | 7, _ => ln7 | 8, _ => ln8 | 9, _ => ln9 | 10, _ => ln10 | 11, _ => ln11 | 12, _ => ln12 | 13, _ => ln13 | 14, _ => ln14 | i + 15, hi => absurd hi (by omega)
  have xiY : XiC K CY := lY.xi (by decide) (by decide) gaY ggY gcY gs8 gs9
  have xi0 : XiC K C0 := ln0.xi (under (by decide)) (under (by decide)) ga0 gg0 gc0 gs8 gs9
  have xi1 : XiC K C1 := ln1.xi (under (by decide)) (under (by decide)) ga1 gg1 gc1 gs8 gs9
  have xi2 : XiC K C2 := ln2.xi (under (by decide)) (under (by decide)) ga2 gg2 gc2 gs8 gs9
  have xi3 : XiC K C3 := ln3.xi (under (by decide)) (under (by decide)) ga3 gg3 gc3 gs8 gs9
  have xi4 : XiC K C4 := ln4.xi (under (by decide)) (under (by decide)) ga4 gg4 gc4 gs8 gs9
  have xi5 : XiC K C5 := ln5.xi (under (by decide)) (under (by decide)) ga5 gg5 gc5 gs8 gs9
  have xi6 : XiC K C6 := ln6.xi (under (by decide)) (under (by decide)) ga6 gg6 gc6 gs8 gs9
  have xi7 : XiC K C7 := ln7.xi (under (by decide)) (under (by decide)) ga7 gg7 gc7 gs8 gs9
  have xi8 : XiC K C8 := ln8.xi (under (by decide)) (under (by decide)) ga8 gg8 gc8 gs8 gs9
  have xi9 : XiC K C9 := ln9.xi (under (by decide)) (under (by decide)) ga9 gg9 gc9 gs8 gs9
  have xi10 : XiC K C10 := ln10.xi (under (by decide)) (under (by decide)) ga10 gg10 gc10 gs8 gs9
  have xi11 : XiC K C11 := ln11.xi (under (by decide)) (under (by decide)) ga11 gg11 gc11 gs8 gs9
  have xi12 : XiC K C12 := ln12.xi (under (by decide)) (under (by decide)) ga12 gg12 gc12 gs8 gs9
  have xi13 : XiC K C13 := ln13.xi (under (by decide)) (under (by decide)) ga13 gg13 gc13 gs8 gs9
  have xi14 : XiC K C14 := ln14.xi (under (by decide)) (under (by decide)) ga14 gg14 gc14 gs8 gs9
  have ex0 : PySem.W.subIn K (.ref C0) (.type "BaseException") = some true := xi0.k6
  have ox0 : OexC K C0 := ⟨⟨nm0, q0, N0, bs0, _, sn0, sub0, ab0, col0, dd0, u0, v0, w0, y0, z0, x0, rfl⟩, sa0, ex0, ln0.t, kc0⟩
  have xf0 : XfC K C0 := ⟨ga0, gg0, ex0, hd0⟩
  have ex1 : PySem.W.subIn K (.ref C1) (.type "BaseException") = some true := xi1.k6
  have ox1 : OexC K C1 := ⟨⟨nm1, q1, N1, bs1, _, sn1, sub1, ab1, col1, dd1, u1, v1, w1, y1, z1, x1, rfl⟩, sa1, ex1, ln1.t, kc1⟩
  have xf1 : XfC K C1 := ⟨ga1, gg1, ex1, hd1⟩
  have ex2 : PySem.W.subIn K (.ref C2) (.type "BaseException") = some true := xi2.k6
  have ox2 : OexC K C2 := ⟨⟨nm2, q2, N2, bs2, _, sn2, sub2, ab2, col2, dd2, u2, v2, w2, y2, z2, x2, rfl⟩, sa2, ex2, ln2.t, kc2⟩
  have xf2 : XfC K C2 := ⟨ga2, gg2, ex2, hd2⟩
  have ex3 : PySem.W.subIn K (.ref C3) (.type "BaseException") = some true := xi3.k6
  have ox3 : OexC K C3 := ⟨⟨nm3, q3, N3, bs3, _, sn3, sub3, ab3, col3, dd3, u3, v3, w3, y3, z3, x3, rfl⟩, sa3, ex3, ln3.t, kc3⟩
  have xf3 : XfC K C3 := ⟨ga3, gg3, ex3, hd3⟩
  have ex4 : PySem.W.subIn K (.ref C4) (.type "BaseException") = some true := xi4.k6
  have ox4 : OexC K C4 := ⟨⟨nm4, q4, N4, bs4, _, sn4, sub4, ab4, col4, dd4, u4, v4, w4, y4, z4, x4, rfl⟩, sa4, ex4, ln4.t, kc4⟩
  have xf4 : XfC K C4 := ⟨ga4, gg4, ex4, hd4⟩
  have ex5 : PySem.W.subIn K (.ref C5) (.type "BaseException") = some true := xi5.k6
  have ox5 : OexC K C5 := ⟨⟨nm5, q5, N5, bs5, _, sn5, sub5, ab5, col5, dd5, u5, v5, w5, y5, z5, x5, rfl⟩, sa5, ex5, ln5.t, kc5⟩
  have xf5 : XfC K C5 := ⟨ga5, gg5, ex5, hd5⟩
  have ex6 : PySem.W.subIn K (.ref C6) (.type "BaseException") = some true := xi6.k6
  have ox6 : OexC K C6 := ⟨⟨nm6, q6, N6, bs6, _, sn6, sub6, ab6, col6, dd6, u6, v6, w6, y6, z6, x6, rfl⟩, sa6, ex6, ln6.t, kc6⟩
  have xf6 : XfC K C6 := ⟨ga6, gg6, ex6, hd6⟩
  have ex7 : PySem.W.subIn K (.ref C7) (.type "BaseException") = some true := xi7.k6
  have ox7 : OexC K C7 := ⟨⟨nm7, q7, N7, bs7, _, sn7, sub7, ab7, col7, dd7, u7, v7, w7, y7, z7, x7, rfl⟩, sa7, ex7, ln7.t, kc7⟩
  have xf7 : XfC K C7 := ⟨ga7, gg7, ex7, hd7⟩
  have ex8 : PySem.W.subIn K (.ref C8) (.type "BaseException") = some true := xi8.k6
  have ox8 : OexC K C8 := ⟨⟨nm8, q8, N8, bs8, _, sn8, sub8, ab8, col8, dd8, u8, v8, w8, y8, z8, x8, rfl⟩, sa8, ex8, ln8.t, kc8⟩
  have xf8 : XfC K C8 := ⟨ga8, gg8, ex8, hd8⟩
  have ex9 : PySem.W.subIn K (.ref C9) (.type "BaseException") = some true := xi9.k6
  have ox9 : OexC K C9 := ⟨⟨nm9, q9, N9, bs9, _, sn9, sub9, ab9, col9, dd9, u9, v9, w9, y9, z9, x9, rfl⟩, sa9, ex9, ln9.t, kc9⟩
  have xf9 : XfC K C9 := ⟨ga9, gg9, ex9, hd9⟩
  have ex10 : PySem.W.subIn K (.ref C10) (.type "BaseException") = some true := xi10.k6
  have ox10 : OexC K C10 := ⟨⟨nm10, q10, N10, bs10, _, sn10, sub10, ab10, col10, dd10, u10, v10, w10, y10, z10, x10, rfl⟩, sa10, ex10, ln10.t, kc10⟩
  have xf10 : XfC K C10 := ⟨ga10, gg10, ex10, hd10⟩
  have ex11 : PySem.W.subIn K (.ref C11) (.type "BaseException") = some true := xi11.k6
  have ox11 : OexC K C11 := ⟨⟨nm11, q11, N11, bs11, _, sn11, sub11, ab11, col11, dd11, u11, v11, w11, y11, z11, x11, rfl⟩, sa11, ex11, ln11.t, kc11⟩
  have xf11 : XfC K C11 := ⟨ga11, gg11, ex11, hd11⟩
  have ex12 : PySem.W.subIn K (.ref C12) (.type "BaseException") = some true := xi12.k6
  have ox12 : OexC K C12 := ⟨⟨nm12, q12, N12, bs12, _, sn12, sub12, ab12, col12, dd12, u12, v12, w12, y12, z12, x12, rfl⟩, sa12, ex12, ln12.t, kc12⟩
  have xf12 : XfC K C12 := ⟨ga12, gg12, ex12, hd12⟩
  have T : T0 K mg CY (csOf [C0, C1, C2, C3, C4, C5, C6, C7, C8, C9, C10, C11, C12, C13, C14]) := { isi := PySem.W.mg_none_of X G z00, range := PySem.W.mg_none_of X G z01, ve := PySem.W.mg_none_of X G z02, gY := PySem.W.mg_of X G aY, g0 := PySem.W.mg_of X G a0, g1 := PySem.W.mg_of X G a1, g2 := PySem.W.mg_of X G a2, g3 := PySem.W.mg_of X G a3, g4 := PySem.W.mg_of X G a4, g5 := PySem.W.mg_of X G a5, g6 := PySem.W.mg_of X G a6, g7 := PySem.W.mg_of X G a7, g8 := PySem.W.mg_of X G a8, g9 := PySem.W.mg_of X G a9, g10 := PySem.W.mg_of X G a10, g11 := PySem.W.mg_of X G a11, g12 := PySem.W.mg_of X G a12, g13 := PySem.W.mg_of X G a13, g14 := PySem.W.mg_of X G a14, kd := fun i hi => match i, hi with | 0, _ => kd_own (i := 0) (by decide) ln lY nd nY xi0 | 1, _ => kd_own (i := 1) (by decide) ln lY nd nY xi1 | 2, _ => kd_own (i := 2) (by decide) ln lY nd nY xi2 | 3, _ => kd_own (i := 3) (by decide) ln lY nd nY xi3 | 4, _ => kd_own (i := 4) (by decide) ln lY nd nY xi4 | 5, _ => kd_own (i := 5) (by decide) ln lY nd nY xi5 | 6, _ => kd_own (i := 6) (by decide) ln lY nd nY xi6 | 7, _ => kd_own (i := 7) (by decide) ln lY nd nY xi7 | 8, _ => kd_own (i := 8) (by decide) ln lY nd nY xi8 | 9, _ => kd_own (i := 9) (by decide) ln lY nd nY xi9 | 10, _ => kd_own (i := 10) (by decide) ln lY nd nY xi10 | 11, _ => kd_own (i := 11) (by decide) ln lY nd nY xi11 | 12, _ => kd_own (i := 12) (by decide) ln lY nd nY xi12 | 13, _ => kd_own (i := 13) (by decide) ln lY nd nY xi13 | 14, _ => kd_own (i := 14) (by decide) ln lY nd nY xi14 | i + 15, hi => absurd hi (by omega), kY := kd_top ln lY nY xiY, oex := fun i hi => match i, hi with | 0, _ => ox0 | 1, _ => ox1 | 2, _ => ox2 | 3, _ => ox3 | 4, _ => ox4 | 5, _ => ox5 | 6, _ => ox6 | 7, _ => ox7 | 8, _ => ox8 | 9, _ => ox9 | 10, _ => ox10 | 11, _ => ox11 | 12, _ => ox12 | i + 13, hi => absurd hi (by omega), xf := fun i hi => match i, hi with | 0, _ => xf0 | 1, _ => xf1 | 2, _ => xf2 | 3, _ => xf3 | 4, _ => xf4 | 5, _ => xf5 | 6, _ => xf6 | 7, _ => xf7 | 8, _ => xf8 | 9, _ => xf9 | 10, _ => xf10 | 11, _ => xf11 | 12, _ => xf12 | i + 13, hi => absurd hi (by omega), eY := eY, kpY := kcY, e13 := e13, kp13 := kc13, e14 := e14, kp14 := kc14, n0 := n0, n1a := n1a, n1b := n1b, n2a := n2a, n2b := n2b, n3 := n3, n4 := n4, n5 := n5, n6 := n6, n7 := n7, n8 := n8, n9 := n9, n10 := n10, n11 := n11, n12a := n12a, n12b := n12b }
  have TP : TxP K mg fF1 := ⟨PySem.W.mg_none_of X G z03, PySem.W.mg_none_of X G z04, PySem.W.mg_none_of X G z05, PySem.W.mg_of X G aF1⟩
  have FI0 := fun_mk (st := sI0) lI0 cI0 kI0
  have BI0 := FI0.binds (ps := ["self", "column"]) fun _ _ _ _ _ _ us hl => match us, hl with | [_, _], _ => rfl
  have FI1 := fun_mk (st := sI1) lI1 cI1 kI1
  have BI1 := FI1.binds (ps := ["self", "line", "column"]) fun _ _ _ _ _ _ us hl => match us, hl with | [_, _, _], _ => rfl
  have FI2 := fun_mk (st := sI2) lI2 cI2 kI2
  have BI2 := FI2.binds (ps := ["self", "what", "number"]) fun _ _ _ _ _ _ us hl => match us, hl with | [_, _, _], _ => rfl
  have FI3 := fun_mk (st := sI3) lI3 cI3 kI3
  have BI3 := FI3.binds (ps := ["self", "row"]) fun _ _ _ _ _ _ us hl => match us, hl with | [_, _], _ => rfl
  have FI4 := fun_mk (st := sI4) lI4 cI4 kI4
  have BI4 := FI4.binds (ps := ["self", "tie"]) fun _ _ _ _ _ _ us hl => match us, hl with | [_, _], _ => rfl
  have FI5 := fun_mk (st := sI5) lI5 cI5 kI5
  have BI5 := FI5.binds (ps := ["self", "index"]) fun _ _ _ _ _ _ us hl => match us, hl with | [_, _], _ => rfl
  have FI6 := fun_mk (st := sI6) lI6 cI6 kI6
  have BI6 := FI6.binds (ps := ["self", "index"]) fun _ _ _ _ _ _ us hl => match us, hl with | [_, _], _ => rfl
  have FI7 := fun_mk (st := sI7) lI7 cI7 kI7
  have BI7 := FI7.binds (ps := ["self", "name"]) fun _ _ _ _ _ _ us hl => match us, hl with | [_, _], _ => rfl
  have FI8 := fun_mk (st := sI8) lI8 cI8 kI8
  have BI8 := FI8.binds (ps := ["self", "name"]) fun _ _ _ _ _ _ us hl => match us, hl with | [_, _], _ => rfl
  have FI9 := fun_mk (st := sI9) lI9 cI9 kI9
  have BI9 := FI9.binds (ps := ["self", "name"]) fun _ _ _ _ _ _ us hl => match us, hl with | [_, _], _ => rfl
  have FI10 := fun_mk (st := sI10) lI10 cI10 kI10
  have BI10 := FI10.binds (ps := ["self", "what"]) fun _ _ _ _ _ _ us hl => match us, hl with | [_, _], _ => rfl
  have FI11 := fun_mk (st := sI11) lI11 cI11 kI11
  have BI11 := FI11.binds (ps := ["self", "most"]) fun _ _ _ _ _ _ us hl => match us, hl with | [_, _], _ => rfl
  have FI12 := fun_mk (st := sI12) lI12 cI12 kI12
  have BI12 := FI12.binds (ps := ["self", "promise", "witness"]) fun _ _ _ _ _ _ us hl => match us, hl with | [_, _, _], _ => rfl
  have FF0 := fun_mk (st := sPen) lF0 cF0 kF0
  have BF0 := FF0.binds (ps := ["_law_script"]) fun _ _ _ _ _ _ us hl => match us, hl with | [_], _ => rfl
  have FF1 := fun_mk (st := sDraw) lF1 cF1 kF1
  have BF1 := FF1.binds (ps := ["_law_pen_here", "_law_many"]) fun _ _ _ _ _ _ us hl => match us, hl with | [_, _], _ => rfl
  have FF2 := fun_mk (st := sPick) lF2 cF2 kF2
  have BF2 := FF2.binds (ps := ["_law_pen_here", "_law_some"]) fun _ _ _ _ _ _ us hl => match us, hl with | [_, _], _ => rfl
  have FF3 := fun_mk (st := sKinds) lF3 cF3 kF3
  have BF3 := FF3.binds (ps := ["_law_error"]) fun _ _ _ _ _ _ us hl => match us, hl with | [_], _ => rfl
  have FF4 := fun_mk (st := sLaw) lF4 cF4 kF4
  refine ⟨PySem.W.fnOf "law" "law" (defArgs sLaw) (defBody sLaw) (defScope sLaw) .none kVF4 dcF4 pmF4 anF4 cdF4 ctF4, fun s v => .of_eq rfl, fun base _ _ => ?_⟩
  exact ok_law (P := P) (w := w) (base := base) (fI := csOf [fI0, fI1, fI2, fI3, fI4, fI5, fI6, fI7, fI8, fI9, fI10, fI11, fI12]) FF4 T (PySem.W.mg_of X G aF2) (PySem.W.mg_of X G aF0) (PySem.W.mg_of X G aF3) ⟨⟨_, ok_i0 FI0 ox0 n0, BI0⟩, i0, t0⟩ ⟨⟨_, ok_i1 FI1 ox1 n1a n1b, BI1⟩, i1, t1⟩ ⟨⟨_, ok_i2 FI2 ox2 n2a n2b, BI2⟩, i2, t2⟩ ⟨⟨_, ok_i3 FI3 ox3 n3, BI3⟩, i3, t3⟩ ⟨⟨_, ok_i4 FI4 ox4 n4, BI4⟩, i4, t4⟩ ⟨⟨_, ok_i5 FI5 ox5 n5, BI5⟩, i5, t5⟩ ⟨⟨_, ok_i6 FI6 ox6 n6, BI6⟩, i6, t6⟩ ⟨⟨_, ok_i7 FI7 ox7 n7, BI7⟩, i7, t7⟩ ⟨⟨_, ok_i8 FI8 ox8 n8, BI8⟩, i8, t8⟩ ⟨⟨_, ok_i9 FI9 ox9 n9, BI9⟩, i9, t9⟩ ⟨⟨_, ok_i10 FI10 ox10 n10, BI10⟩, i10, t10⟩ ⟨⟨_, ok_i11 FI11 ox11 n11, BI11⟩, i11, t11⟩ ⟨⟨_, ok_i12 FI12 ox12 n12a n12b, BI12⟩, i12, t12⟩ (ok_pick FF2 TP FF1 BF1) FF2 BF2 (ok_pen FF0 TP) FF0 BF0 (ok_kinds FF3 T) FF3 BF3
theorem walk {l : PySem.W.OpenLaw} {q : Program} {loose : List Str} {XP : (Str → Option Value) → Heap → Prop} {YP : World → Heap → Prop} {d : DefRec} {K : Params → PySem.W.Frag} (hn : l.most = some 63) (hdf : d.params.defaults = [])
    (hY : ∀ (w : World) (h : Heap), YP w h → (K w.params).In h)
    (F : ∀ (w : World) (mg : Str → Option Value) (fa : Addr) (h : Heap), (K w.params).In h → h.Ns mainGlobals mg → mg d.name = some (.ref fa) →
      ∃ fd : FuncData, (∀ (s : Shared) (u : Value), BindsTo s fd ⟨[u], []⟩ [("_law_script", u)]) ∧ ∀ base : Heap, (K w.params).In base → base.Ns mainGlobals mg → FnOk l.prog w (K w.params) mg base CX0 3 fa fd ["_law_script"] (spLaw (K w.params))) :
    PySem.W.WalkO q loose XP YP l.row.toRowW d [] (fun f vs => PySem.call f vs) :=
  L2.walk_of (n := 63) (k := 3) (x := "_law_script") (CX := fun _ => CX0) (sp := fun w => spLaw (K w.params)) hn (by decide) hdf ⟨rfl, by decide, by decide⟩ hY F (fun _ _ a ns hl _ hS => ⟨a, ns, rfl, hS, hl, fun _ => rfl⟩) fun _ _ _ _ _ z => z
end Y
open PySem PySem.W PyProof.Rows
set_option maxRecDepth 100000 in
set_option maxHeartbeats 0 in
theorem PySem.Challenge.cw_slideyards_k00_errors_holds : PySem.Challenge.rw_slideyards_k00_errors.Holds := by
  w_on; o_law; k_head; (case hw => w_witness2)
  k_fill
  refine Y.walk (l := PySem.Challenge.rw_slideyards_k00_errors) rfl rfl (fun w h Y => PySem.W.kIn_of Y) ?F
  case F =>
    intro w mg fa h KX G hmg
    refine' Y.all_mk KX G hmg ?aY ?xY ?gaY ?ggY ?kcY ?gcY ?eY ?a0 ?x0 ?ga0 ?gg0 ?kc0 ?gc0 ?sa0 ?hd0 ?n0 ?i0 ?t0 ?lI0 ?cI0 ?kI0 ?a1 ?x1 ?ga1 ?gg1 ?kc1 ?gc1 ?sa1 ?hd1 ?n1a ?n1b ?i1 ?t1 ?lI1 ?cI1 ?kI1 ?a2 ?x2 ?ga2 ?gg2 ?kc2 ?gc2 ?sa2 ?hd2 ?n2a ?n2b ?i2 ?t2 ?lI2 ?cI2 ?kI2 ?a3 ?x3 ?ga3 ?gg3 ?kc3 ?gc3 ?sa3 ?hd3 ?n3 ?i3 ?t3 ?lI3 ?cI3 ?kI3 ?a4 ?x4 ?ga4 ?gg4 ?kc4 ?gc4 ?sa4 ?hd4 ?n4 ?i4 ?t4 ?lI4 ?cI4 ?kI4 ?a5 ?x5 ?ga5 ?gg5 ?kc5 ?gc5 ?sa5 ?hd5 ?n5 ?i5 ?t5 ?lI5 ?cI5 ?kI5 ?a6 ?x6 ?ga6 ?gg6 ?kc6 ?gc6 ?sa6 ?hd6 ?n6 ?i6 ?t6 ?lI6 ?cI6 ?kI6 ?a7 ?x7 ?ga7 ?gg7 ?kc7 ?gc7 ?sa7 ?hd7 ?n7 ?i7 ?t7 ?lI7 ?cI7 ?kI7 ?a8 ?x8 ?ga8 ?gg8 ?kc8 ?gc8 ?sa8 ?hd8 ?n8 ?i8 ?t8 ?lI8 ?cI8 ?kI8 ?a9 ?x9 ?ga9 ?gg9 ?kc9 ?gc9 ?sa9 ?hd9 ?n9 ?i9 ?t9 ?lI9 ?cI9 ?kI9 ?a10 ?x10 ?ga10 ?gg10 ?kc10 ?gc10 ?sa10 ?hd10 ?n10 ?i10 ?t10 ?lI10 ?cI10 ?kI10 ?a11 ?x11 ?ga11 ?gg11 ?kc11 ?gc11 ?sa11 ?hd11 ?n11 ?i11 ?t11 ?lI11 ?cI11 ?kI11 ?a12 ?x12 ?ga12 ?gg12 ?kc12 ?gc12 ?sa12 ?hd12 ?n12a ?n12b ?i12 ?t12 ?lI12 ?cI12 ?kI12 ?a13 ?x13 ?ga13 ?gg13 ?kc13 ?gc13 ?e13 ?a14 ?x14 ?ga14 ?gg14 ?kc14 ?gc14 ?e14 ?gs8 ?gs9 ?aF0 ?lF0 ?cF0 ?kF0 ?aF1 ?lF1 ?cF1 ?kF1 ?aF2 ?lF2 ?cF2 ?kF2 ?aF3 ?lF3 ?cF3 ?kF3 ?aF4 ?lF4 ?cF4 ?kF4 ?z00 ?z01 ?z02 ?z03 ?z04 ?z05 ?nd ?nY
    (case aY => k_is); (case xY => k_is); (case gaY => k_is); (case ggY => k_is); (case kcY => k_is); (case gcY => k_is)
    (case eY => k_exc); (case a0 => k_is); (case x0 => k_is); (case ga0 => k_is); (case gg0 => k_is); (case kc0 => k_is)
    (case gc0 => k_is); (case sa0 => k_is); (case hd0 => k_is); (case n0 => k_is); (case i0 => k_is); (case t0 => k_is)
    (case lI0 => k_is); (case cI0 => k_is); (case kI0 => k_is); (case a1 => k_is); (case x1 => k_is); (case ga1 => k_is)
    (case gg1 => k_is); (case kc1 => k_is); (case gc1 => k_is); (case sa1 => k_is); (case hd1 => k_is); (case n1a => k_is)
    (case n1b => k_is); (case i1 => k_is); (case t1 => k_is); (case lI1 => k_is); (case cI1 => k_is); (case kI1 => k_is)
    (case a2 => k_is); (case x2 => k_is); (case ga2 => k_is); (case gg2 => k_is); (case kc2 => k_is); (case gc2 => k_is)
    (case sa2 => k_is); (case hd2 => k_is); (case n2a => k_is); (case n2b => k_is); (case i2 => k_is); (case t2 => k_is)
    (case lI2 => k_is); (case cI2 => k_is); (case kI2 => k_is); (case a3 => k_is); (case x3 => k_is); (case ga3 => k_is)
    (case gg3 => k_is); (case kc3 => k_is); (case gc3 => k_is); (case sa3 => k_is); (case hd3 => k_is); (case n3 => k_is)
    (case i3 => k_is); (case t3 => k_is); (case lI3 => k_is); (case cI3 => k_is); (case kI3 => k_is); (case a4 => k_is)
    (case x4 => k_is); (case ga4 => k_is); (case gg4 => k_is); (case kc4 => k_is); (case gc4 => k_is); (case sa4 => k_is)
    (case hd4 => k_is); (case n4 => k_is); (case i4 => k_is); (case t4 => k_is); (case lI4 => k_is); (case cI4 => k_is)
    (case kI4 => k_is); (case a5 => k_is); (case x5 => k_is); (case ga5 => k_is); (case gg5 => k_is); (case kc5 => k_is)
    (case gc5 => k_is); (case sa5 => k_is); (case hd5 => k_is); (case n5 => k_is); (case i5 => k_is); (case t5 => k_is)
    (case lI5 => k_is); (case cI5 => k_is); (case kI5 => k_is); (case a6 => k_is); (case x6 => k_is); (case ga6 => k_is)
    (case gg6 => k_is); (case kc6 => k_is); (case gc6 => k_is); (case sa6 => k_is); (case hd6 => k_is); (case n6 => k_is)
    (case i6 => k_is); (case t6 => k_is); (case lI6 => k_is); (case cI6 => k_is); (case kI6 => k_is); (case a7 => k_is)
    (case x7 => k_is); (case ga7 => k_is); (case gg7 => k_is); (case kc7 => k_is); (case gc7 => k_is); (case sa7 => k_is)
    (case hd7 => k_is); (case n7 => k_is); (case i7 => k_is); (case t7 => k_is); (case lI7 => k_is); (case cI7 => k_is)
    (case kI7 => k_is); (case a8 => k_is); (case x8 => k_is); (case ga8 => k_is); (case gg8 => k_is); (case kc8 => k_is)
    (case gc8 => k_is); (case sa8 => k_is); (case hd8 => k_is); (case n8 => k_is); (case i8 => k_is); (case t8 => k_is)
    (case lI8 => k_is); (case cI8 => k_is); (case kI8 => k_is); (case a9 => k_is); (case x9 => k_is); (case ga9 => k_is)
    (case gg9 => k_is); (case kc9 => k_is); (case gc9 => k_is); (case sa9 => k_is); (case hd9 => k_is); (case n9 => k_is)
    (case i9 => k_is); (case t9 => k_is); (case lI9 => k_is); (case cI9 => k_is); (case kI9 => k_is); (case a10 => k_is)
    (case x10 => k_is); (case ga10 => k_is); (case gg10 => k_is); (case kc10 => k_is); (case gc10 => k_is); (case sa10 => k_is)
    (case hd10 => k_is); (case n10 => k_is); (case i10 => k_is); (case t10 => k_is); (case lI10 => k_is); (case cI10 => k_is)
    (case kI10 => k_is); (case a11 => k_is); (case x11 => k_is); (case ga11 => k_is); (case gg11 => k_is); (case kc11 => k_is)
    (case gc11 => k_is); (case sa11 => k_is); (case hd11 => k_is); (case n11 => k_is); (case i11 => k_is); (case t11 => k_is)
    (case lI11 => k_is); (case cI11 => k_is); (case kI11 => k_is); (case a12 => k_is); (case x12 => k_is); (case ga12 => k_is)
    (case gg12 => k_is); (case kc12 => k_is); (case gc12 => k_is); (case sa12 => k_is); (case hd12 => k_is); (case n12a => k_is)
    (case n12b => k_is); (case i12 => k_is); (case t12 => k_is); (case lI12 => k_is); (case cI12 => k_is); (case kI12 => k_is)
    (case a13 => k_is); (case x13 => k_is); (case ga13 => k_is); (case gg13 => k_is); (case kc13 => k_is); (case gc13 => k_is)
    (case e13 => k_exc); (case a14 => k_is); (case x14 => k_is); (case ga14 => k_is); (case gg14 => k_is); (case kc14 => k_is)
    (case gc14 => k_is); (case e14 => k_exc); (case gs8 => k_is); (case gs9 => k_is); (case aF0 => k_is); (case lF0 => k_is)
    (case cF0 => k_is); (case kF0 => k_is); (case aF1 => k_is); (case lF1 => k_is); (case cF1 => k_is); (case kF1 => k_is)
    (case aF2 => k_is); (case lF2 => k_is); (case cF2 => k_is); (case kF2 => k_is); (case aF3 => k_is); (case lF3 => k_is)
    (case cF3 => k_is); (case kF3 => k_is); (case aF4 => k_is); (case lF4 => k_is); (case cF4 => k_is); (case kF4 => k_is)
    (case z00 => k_is); (case z01 => k_is); (case z02 => k_is); (case z03 => k_is); (case z04 => k_is); (case z05 => k_is)
    (case nd => decide +kernel); (case nY => decide +kernel)
