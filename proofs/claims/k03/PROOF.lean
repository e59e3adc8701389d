import PyProof.Rows.All
import Wide.All
import OpenK.AllK
import Wide.FinOn
import HandS.ForMost
import HandS.Wide
import PySem.Challenge.RW_slideyards_k03_whole_promise_texts
import HandS.ReplaceLit
import PyProof.StrReplace2
import PyProof.StrOps2
import HandS.ForExc
import HandS.ExcInit
import HandS.ExcField
import HandS.IsInst
import KE.KExcIs
import HandS.Codes
import HandS.FStr
import HandS.Style
import HandS.TryOnly
import HandS.ReplaceList
import HandS.Words
set_option Elab.async false
set_option linter.all false
set_option maxRecDepth 100000
set_option maxHeartbeats 2000000
namespace Y
open PySem L2
/-! ### all but one object stands -/
def But (p : Addr) (H H' : Hp) : Prop := ∀ b o, b ≠ p → H b = some o → H' b = some o
theorem But.refl (p : Addr) (H : Hp) : But p H H := fun _ _ _ h => h
theorem But.trans {p : Addr} {H H1 H2 : Hp} (a : But p H H1) (b : But p H1 H2) : But p H H2 := fun c o n h => b c o n (a c o n h)
theorem But.upd {p : Addr} {H : Hp} {o : HO} : But p H (upd H p o) := fun b u n h => by rw [upd_ne n]; exact h
theorem But.of_same {p : Addr} {H H' : Hp} (s : Same H H') : But p H H' := fun b o _ h => s b o h
theorem Same.new {H : Hp} {a : Addr} {o : HO} (h : H a = none) : Same H (upd H a o) := fun b u e => by
  rw [upd_ne (ne_of_none e h)]
  exact e
/-! ### the pen's dict -/
def penD (l : Addr) (a g c f : Int) : List (Key × V) :=
  [(Sum.inr "cells", .ref l), (Sum.inr "at", .int a), (Sum.inr "digits", .int g), (Sum.inr "count", .int c), (Sum.inr "fold", .int f)]
theorem k12 : ¬ ((Sum.inr ("cells" : Str) : Key) = Sum.inr ("at" : Str)) := by decide +kernel
theorem k13 : ¬ ((Sum.inr ("cells" : Str) : Key) = Sum.inr ("digits" : Str)) := by decide +kernel
theorem k14 : ¬ ((Sum.inr ("cells" : Str) : Key) = Sum.inr ("count" : Str)) := by decide +kernel
theorem k15 : ¬ ((Sum.inr ("cells" : Str) : Key) = Sum.inr ("fold" : Str)) := by decide +kernel
theorem k21 : ¬ ((Sum.inr ("at" : Str) : Key) = Sum.inr ("cells" : Str)) := by decide +kernel
theorem k23 : ¬ ((Sum.inr ("at" : Str) : Key) = Sum.inr ("digits" : Str)) := by decide +kernel
theorem k24 : ¬ ((Sum.inr ("at" : Str) : Key) = Sum.inr ("count" : Str)) := by decide +kernel
theorem k25 : ¬ ((Sum.inr ("at" : Str) : Key) = Sum.inr ("fold" : Str)) := by decide +kernel
theorem k31 : ¬ ((Sum.inr ("digits" : Str) : Key) = Sum.inr ("cells" : Str)) := by decide +kernel
theorem k32 : ¬ ((Sum.inr ("digits" : Str) : Key) = Sum.inr ("at" : Str)) := by decide +kernel
theorem k34 : ¬ ((Sum.inr ("digits" : Str) : Key) = Sum.inr ("count" : Str)) := by decide +kernel
theorem k35 : ¬ ((Sum.inr ("digits" : Str) : Key) = Sum.inr ("fold" : Str)) := by decide +kernel
theorem k41 : ¬ ((Sum.inr ("count" : Str) : Key) = Sum.inr ("cells" : Str)) := by decide +kernel
theorem k42 : ¬ ((Sum.inr ("count" : Str) : Key) = Sum.inr ("at" : Str)) := by decide +kernel
theorem k43 : ¬ ((Sum.inr ("count" : Str) : Key) = Sum.inr ("digits" : Str)) := by decide +kernel
theorem k45 : ¬ ((Sum.inr ("count" : Str) : Key) = Sum.inr ("fold" : Str)) := by decide +kernel
theorem k51 : ¬ ((Sum.inr ("fold" : Str) : Key) = Sum.inr ("cells" : Str)) := by decide +kernel
theorem k52 : ¬ ((Sum.inr ("fold" : Str) : Key) = Sum.inr ("at" : Str)) := by decide +kernel
theorem k53 : ¬ ((Sum.inr ("fold" : Str) : Key) = Sum.inr ("digits" : Str)) := by decide +kernel
theorem k54 : ¬ ((Sum.inr ("fold" : Str) : Key) = Sum.inr ("count" : Str)) := by decide +kernel
section
variable {l : Addr} {a g c f z : Int}
theorem pen_cells : valV (penD l a g c f) (Sum.inr "cells") = some (.ref l) := valV_pos rfl
theorem pen_at : valV (penD l a g c f) (Sum.inr "at") = some (.int a) := by
  rw [penD, valV_neg k12, valV_pos rfl]
theorem pen_digits : valV (penD l a g c f) (Sum.inr "digits") = some (.int g) := by
  rw [penD, valV_neg k13, valV_neg k23, valV_pos rfl]
theorem pen_count : valV (penD l a g c f) (Sum.inr "count") = some (.int c) := by
  rw [penD, valV_neg k14, valV_neg k24, valV_neg k34, valV_pos rfl]
theorem pen_fold : valV (penD l a g c f) (Sum.inr "fold") = some (.int f) := by
  rw [penD, valV_neg k15, valV_neg k25, valV_neg k35, valV_neg k45, valV_pos rfl]
theorem put_at : putK (penD l a g c f) (Sum.inr "at") (.int z) = penD l z g c f := by
  unfold putK
  rw [if_pos (by rw [valV_any, pen_at]; rfl)]
  simp only [penD, List.map_cons, List.map_nil, if_neg k12, if_neg k32, if_neg k42, if_neg k52, if_pos]
theorem put_digits : putK (penD l a g c f) (Sum.inr "digits") (.int z) = penD l a z c f := by
  unfold putK
  rw [if_pos (by rw [valV_any, pen_digits]; rfl)]
  simp only [penD, List.map_cons, List.map_nil, if_neg k13, if_neg k23, if_neg k43, if_neg k53, if_pos]
theorem put_count : putK (penD l a g c f) (Sum.inr "count") (.int z) = penD l a g z f := by
  unfold putK
  rw [if_pos (by rw [valV_any, pen_count]; rfl)]
  simp only [penD, List.map_cons, List.map_nil, if_neg k14, if_neg k24, if_neg k34, if_neg k54, if_pos]
theorem put_fold : putK (penD l a g c f) (Sum.inr "fold") (.int z) = penD l a g c z := by
  unfold putK
  rw [if_pos (by rw [valV_any, pen_fold]; rfl)]
  simp only [penD, List.map_cons, List.map_nil, if_neg k15, if_neg k25, if_neg k35, if_neg k45, if_pos]
end
/-- the pen at p, b more draws being allowed -/
structure Pen (H : Hp) (p : Addr) (b : Nat) : Prop where
  ex : ∃ (l : Addr) (ns : List Int) (a g c f : Int), H p = some (.dK (penD l a g c f)) ∧ H l = some (.lst (ns.map V.int)) ∧ ns.length ≤ 63 ∧
    0 ≤ a ∧ 0 ≤ g ∧ 0 ≤ c ∧ c + (b : Int) ≤ 2 ^ 40 ∧ 0 ≤ f ∧ f < 2147483587
theorem Pen.less {H : Hp} {p : Addr} {b b' : Nat} (h : Pen H p b) (hb : b' ≤ b) : Pen H p b' := by
  obtain ⟨l, ns, a, g, c, f, h1, h2, h3, h4, h5, h6, h7, h8, h9⟩ := h.ex
  exact ⟨l, ns, a, g, c, f, h1, h2, h3, h4, h5, h6, by omega, h8, h9⟩
theorem Pen.there {H : Hp} {p : Addr} {b : Nat} (h : Pen H p b) : ∃ kvs, H p = some (.dK kvs) := by
  obtain ⟨l, ns, a, g, c, f, h1, _⟩ := h.ex
  exact ⟨_, h1⟩
theorem Pen.same {H H' : Hp} {p : Addr} {b : Nat} (h : Pen H p b) (s : Same H H') : Pen H' p b := by
  obtain ⟨l, ns, a, g, c, f, h1, h2, h3⟩ := h.ex
  exact ⟨l, ns, a, g, c, f, s _ _ h1, s _ _ h2, h3⟩
/-! ### the promises -/
def spPen (K : PySem.W.Frag) : Sp := fun vs H Q _ => ∃ (a : Addr) (ns : List Int), vs = [.ref a] ∧ SqL K H a (ns.map V.int) ∧ ns.length ≤ 63 ∧
  ∀ (p : Addr) (H' : Hp), Pen H' p (2 ^ 40) → Same H H' → H p = none → Q (.ref p) H'
def spDraw : Sp := fun vs H Q _ => ∃ (p : Addr) (m : Int) (b : Nat), vs = [.ref p, .int m] ∧ Pen H p (b + 1) ∧ 0 < m ∧ m ≤ 2 ^ 40 ∧
  ∀ (n : Int) (H' : Hp), 0 ≤ n → n < m → Pen H' p b → But p H H' → Q (.int n) H'
def spPick (K : PySem.W.Frag) : Sp := fun vs H Q _ => ∃ (p l : Addr) (xs : List V) (b : Nat), vs = [.ref p, .ref l] ∧ Pen H p (b + 1) ∧ (SqL K H l xs ∨ SqT K H l xs) ∧ xs ≠ [] ∧ xs.length ≤ 1000000 ∧
  ∀ (x : V) (i : Nat) (H' : Hp), xs[i]? = some x → Pen H' p b → But p H H' → Q x H'
theorem pen_merge {l : Addr} {a g c f : Int} : mergeK [] (penD l a g c f) = penD l a g c f := by
  show putK (putK (putK (putK (putK ([]) (Sum.inr "cells" : Key) (V.ref l)) (Sum.inr "at" : Key) (V.int a)) (Sum.inr "digits" : Key) (V.int g)) (Sum.inr "count" : Key) (V.int c)) (Sum.inr "fold" : Key) (V.int f) = penD l a g c f
  have e1 : putK ([] : List (Key × V)) (Sum.inr "cells" : Key) (V.ref l) = [((Sum.inr "cells" : Key), V.ref l)] := putK_new _ rfl
  have e2 : putK [((Sum.inr "cells" : Key), V.ref l)] (Sum.inr "at" : Key) (V.int a) = [((Sum.inr "cells" : Key), V.ref l), ((Sum.inr "at" : Key), V.int a)] := putK_new _ (by rw [valV_neg k12]; rfl)
  have e3 : putK [((Sum.inr "cells" : Key), V.ref l), ((Sum.inr "at" : Key), V.int a)] (Sum.inr "digits" : Key) (V.int g) = [((Sum.inr "cells" : Key), V.ref l), ((Sum.inr "at" : Key), V.int a), ((Sum.inr "digits" : Key), V.int g)] := putK_new _ (by rw [valV_neg k13, valV_neg k23]; rfl)
  have e4 : putK [((Sum.inr "cells" : Key), V.ref l), ((Sum.inr "at" : Key), V.int a), ((Sum.inr "digits" : Key), V.int g)] (Sum.inr "count" : Key) (V.int c) = [((Sum.inr "cells" : Key), V.ref l), ((Sum.inr "at" : Key), V.int a), ((Sum.inr "digits" : Key), V.int g), ((Sum.inr "count" : Key), V.int c)] := putK_new _ (by rw [valV_neg k14, valV_neg k24, valV_neg k34]; rfl)
  have e5 : putK [((Sum.inr "cells" : Key), V.ref l), ((Sum.inr "at" : Key), V.int a), ((Sum.inr "digits" : Key), V.int g), ((Sum.inr "count" : Key), V.int c)] (Sum.inr "fold" : Key) (V.int f) = [((Sum.inr "cells" : Key), V.ref l), ((Sum.inr "at" : Key), V.int a), ((Sum.inr "digits" : Key), V.int g), ((Sum.inr "count" : Key), V.int c), ((Sum.inr "fold" : Key), V.int f)] := putK_new _ (by rw [valV_neg k15, valV_neg k25, valV_neg k35, valV_neg k45]; rfl)
  rw [e1, e2, e3, e4, e5]
  rfl
theorem pen_small {l : Addr} {a g c f : Int} : (penD l a g c f).length < sizeLine := by show 5 < sizeLine; decide
section
variable {H : Hp} {p l : Addr} {a g c f z : Int}
theorem get_cells (e : H p = some (.dK (penD l a g c f))) : DGet H p (.str "cells") (some (.ref l)) := .inl ⟨_, Sum.inr "cells", .inl e, rfl, pen_cells.symm⟩
theorem get_at (e : H p = some (.dK (penD l a g c f))) : DGet H p (.str "at") (some (.int a)) := .inl ⟨_, Sum.inr "at", .inl e, rfl, pen_at.symm⟩
theorem get_digits (e : H p = some (.dK (penD l a g c f))) : DGet H p (.str "digits") (some (.int g)) := .inl ⟨_, Sum.inr "digits", .inl e, rfl, pen_digits.symm⟩
theorem get_count (e : H p = some (.dK (penD l a g c f))) : DGet H p (.str "count") (some (.int c)) := .inl ⟨_, Sum.inr "count", .inl e, rfl, pen_count.symm⟩
theorem get_fold (e : H p = some (.dK (penD l a g c f))) : DGet H p (.str "fold") (some (.int f)) := .inl ⟨_, Sum.inr "fold", .inl e, rfl, pen_fold.symm⟩
theorem dput_count (e : H p = some (.dK (penD l a g c f))) : DPut H p (.str "count") (.int z) (upd H p (.dK (penD l a g z f))) := .inl ⟨_, Sum.inr "count", e, rfl, pen_small, by rw [put_count]⟩
theorem dput_at : DPut (upd H p (.dK (penD l a g c f))) p (.str "at") (.int z) (upd H p (.dK (penD l z g c f))) := .inl ⟨_, Sum.inr "at", upd_same, rfl, pen_small, by rw [put_at, upd_upd]⟩
theorem dput_digits : DPut (upd H p (.dK (penD l a g c f))) p (.str "digits") (.int z) (upd H p (.dK (penD l a z c f))) := .inl ⟨_, Sum.inr "digits", upd_same, rfl, pen_small, by rw [put_digits, upd_upd]⟩
theorem dput_fold : DPut (upd H p (.dK (penD l a g c f))) p (.str "fold") (.int z) (upd H p (.dK (penD l a g c z))) := .inl ⟨_, Sum.inr "fold", upd_same, rfl, pen_small, by rw [put_fold, upd_upd]⟩
end
theorem But.keep {p : Addr} {H H' : Hp} {a : Addr} {o u : HO} (s : But p H H') (hp : H p = some u) (h : H a = some o) (d : o ≠ u) : H' a = some o := s a o (fun e => d (by rw [e, hp] at h; exact (Option.some.inj h).symm)) h
theorem ints_at {ns : List Int} {i : Nat} {y : V} (h : (ns.map V.int)[i]? = some y) : ∃ z, ns[i]? = some z ∧ y = V.int z := by
  rw [List.getElem?_map] at h
  cases e : ns[i]? with
  | none => rw [e] at h; cases h
  | some z => rw [e] at h; exact ⟨z, rfl, (Option.some.inj h).symm⟩
end Y
namespace Y
open PySem L2
theorem atI_int {α : Type} {xs : List α} {i : Int} {v : α} (h0 : 0 ≤ i) (h : xs[i.toNat]? = some v) : atI xs i = some v := by
  have := atI_nat h
  rwa [show ((i.toNat : Nat) : Int) = i by omega] at this
/-- an item that is there -/
theorem there_int {α : Type} {xs : List α} {i : Int} (h0 : 0 ≤ i) (h1 : i < (xs.length : Int)) : ∃ v, xs[i.toNat]? = some v ∧ atI xs i = some v := by
  have h : i.toNat < xs.length := by omega
  exact ⟨xs[i.toNat], List.getElem?_eq_getElem h, atI_int h0 (List.getElem?_eq_getElem h)⟩
theorem But.seq {K : PySem.W.Frag} {p : Addr} {H H' : Hp} {a : Addr} {xs : List V} {kvs : List (Key × V)} (e : But p H H') (hp : H p = some (.dK kvs)) (h : SqL K H a xs) : SqL K H' a xs := by
  rcases h with (h | ⟨o, h⟩) | h
  · exact .inl (.inl (e.keep hp h (by intro z; cases z)))
  · exact .inl (.inr ⟨o, e.keep hp h (by intro z; cases z)⟩)
  · exact .inr h
theorem But.seqT {K : PySem.W.Frag} {p : Addr} {H H' : Hp} {a : Addr} {xs : List V} {kvs : List (Key × V)} (e : But p H H') (hp : H p = some (.dK kvs)) (h : SqT K H a xs) : SqT K H' a xs := by
  rcases h with (h | ⟨o, h⟩) | h
  · exact .inl (.inl (e.keep hp h (by intro z; cases z)))
  · exact .inl (.inr ⟨o, e.keep hp h (by intro z; cases z)⟩)
  · exact .inr h
end Y
namespace Y
open PySem
def top (i : Nat) : Stmt := PySem.Challenge.pw_slideyards_k03_whole_promise_texts.main.body.getD i (.Pass ⟨0, 0, 0, 0⟩)
end Y
set_option Elab.async false
set_option linter.all false
set_option maxRecDepth 100000
set_option maxHeartbeats 2000000
/-! comprehensions whose items are reckoned without a trace: the new list holds the values in order -/
namespace Y
open PySem PySem.Spec PyProof.Rows L2
theorem take_next {α : Type} : ∀ {l : List α} {i : Nat} {x : α}, l[i]? = some x → l.take (i + 1) = l.take i ++ [x]
  | [], i, x, h => by simp at h
  | a :: l, 0, x, h => by
    cases Option.some.inj h
    rfl
  | a :: l, i + 1, x, h => by
    have ih := take_next (l := l) (i := i) (x := x) h
    show a :: l.take (i + 1) = a :: l.take i ++ [x]
    rw [ih]
    rfl
section
variable {K : PySem.W.Frag} {a D : Addr} {xs : List V} {g : TG} {te : TE} {vs : List Nat} {σ : L2.St} {H1 : Hp} {Qd : Hp → Prop} {f : V → V}
/-- over a list -/
theorem lcp_list (hn : H1 D = none) (hz : xs.length ≤ 1000000) (ha : SqL K H1 a xs)
    (he : ∀ (i : Nat) (x : V) (H : Hp) (R : VK), xs[i]? = some x → Same H1 H → R (f x) H → g x (wipe σ vs) H fun σ2 H2 => wipe σ2 vs = wipe σ vs ∧ te σ2 H2 R) (hd : Qd (upd H1 D (.lst (xs.map f)))) :
    ∃ W : Nat → Nat → Hp → Prop, (∃ m, W 0 m (upd H1 D (.lst []))) ∧ ∀ i m H, W i m H →
      ((Itl K a).stop i H ∧ Qd H) ∨ ((Itl K a).go i H ∧ ∃ Nx : Hp → Prop, (∀ H', Nx H' → ∃ m', m' < m ∧ W (i + 1) m' H') ∧ ∀ x H', (Itl K a).yld i H x H' → g x (wipe σ vs) H' fun σ2 H2 => wipe σ2 vs = wipe σ vs ∧ tYes σ2 H2 fun b H3 =>
        if b = true then te σ2 H3 fun y H4 => ∃ acc, H4 D = some (.lst acc) ∧ acc.length < sizeLine ∧ Nx (upd H4 D (.lst (acc ++ [y]))) else Nx H3) := by
  refine lc_list (K := K) (a := a) (xs := xs) (fun i H => H = upd H1 D (.lst ((xs.take i).map f))) rfl (fun i H _ e => ?_) (fun i x H hi e => ?_) (fun H e => ?_)
  · rw [e]
    exact (Y.Same.new hn).seq ha
  · subst e
    refine he i x _ _ hi (Y.Same.new hn) ⟨(xs.take i).map f, upd_same, ?_, ?_⟩
    · rw [List.length_map, List.length_take]
      have : sizeLine = 16777216 := sizeLine_eq
      omega
    · rw [upd_upd, take_next hi, List.map_append]
      rfl
  · rw [e, List.take_length]
    exact hd
/-- over a tuple -/
theorem lcp_tup (hn : H1 D = none) (hz : xs.length ≤ 1000000) (ha : SqT K H1 a xs) (hS : ∀ H', Same H1 H' → SqT K H' a xs)
    (he : ∀ (i : Nat) (x : V) (H : Hp) (R : VK), xs[i]? = some x → Same H1 H → R (f x) H → g x (wipe σ vs) H fun σ2 H2 => wipe σ2 vs = wipe σ vs ∧ te σ2 H2 R) (hd : Qd (upd H1 D (.lst (xs.map f)))) :
    ∃ W : Nat → Nat → Hp → Prop, (∃ m, W 0 m (upd H1 D (.lst []))) ∧ ∀ i m H, W i m H →
      ((Itt K a).stop i H ∧ Qd H) ∨ ((Itt K a).go i H ∧ ∃ Nx : Hp → Prop, (∀ H', Nx H' → ∃ m', m' < m ∧ W (i + 1) m' H') ∧ ∀ x H', (Itt K a).yld i H x H' → g x (wipe σ vs) H' fun σ2 H2 => wipe σ2 vs = wipe σ vs ∧ tYes σ2 H2 fun b H3 =>
        if b = true then te σ2 H3 fun y H4 => ∃ acc, H4 D = some (.lst acc) ∧ acc.length < sizeLine ∧ Nx (upd H4 D (.lst (acc ++ [y]))) else Nx H3) := by
  refine lc_tup (K := K) (a := a) (xs := xs) (fun i H => H = upd H1 D (.lst ((xs.take i).map f))) rfl (fun i H _ e => ?_) (fun i x H hi e => ?_) (fun H e => ?_)
  · rw [e]
    exact hS _ (Y.Same.new hn)
  · subst e
    refine he i x _ _ hi (Y.Same.new hn) ⟨(xs.take i).map f, upd_same, ?_, ?_⟩
    · rw [List.length_map, List.length_take]
      have : sizeLine = 16777216 := sizeLine_eq
      omega
    · rw [upd_upd, take_next hi, List.map_append]
      rfl
  · rw [e, List.take_length]
    exact hd
/-- over a text, sign by sign -/
theorem lcp_str {t : Str} {f : Nat → V} (hn : H1 D = none) (hz : t.cps.size ≤ 1000000)
    (he : ∀ (i c : Nat) (H : Hp) (R : VK), t.cps[i]? = some c → Same H1 H → R (f c) H → g (.str ⟨#[c]⟩) (wipe σ vs) H fun σ2 H2 => wipe σ2 vs = wipe σ vs ∧ te σ2 H2 R) (hd : Qd (upd H1 D (.lst (t.cps.toList.map f)))) :
    ∃ W : Nat → Nat → Hp → Prop, (∃ m, W 0 m (upd H1 D (.lst []))) ∧ ∀ i m H, W i m H →
      ((Its t).stop i H ∧ Qd H) ∨ ((Its t).go i H ∧ ∃ Nx : Hp → Prop, (∀ H', Nx H' → ∃ m', m' < m ∧ W (i + 1) m' H') ∧ ∀ x H', (Its t).yld i H x H' → g x (wipe σ vs) H' fun σ2 H2 => wipe σ2 vs = wipe σ vs ∧ tYes σ2 H2 fun b H3 =>
        if b = true then te σ2 H3 fun y H4 => ∃ acc, H4 D = some (.lst acc) ∧ acc.length < sizeLine ∧ Nx (upd H4 D (.lst (acc ++ [y]))) else Nx H3) := by
  refine ⟨fun i m H => m = t.cps.size - i ∧ i ≤ t.cps.size ∧ H = upd H1 D (.lst ((t.cps.toList.take i).map f)), ⟨t.cps.size, by simp, Nat.zero_le _, rfl⟩, ?_⟩
  rintro i m H ⟨rfl, hi, rfl⟩
  by_cases c : i < t.cps.size
  · refine .inr ⟨c, fun H => H = upd H1 D (.lst ((t.cps.toList.take (i + 1)).map f)), fun H' e => ⟨t.cps.size - (i + 1), by omega, rfl, c, e⟩, ?_⟩
    rintro x H' ⟨rfl, d, hd', rfl⟩
    refine he i d _ _ hd' (Y.Same.new hn) ⟨_, upd_same, ?_, ?_⟩
    · rw [List.length_map]
      have : sizeLine = 16777216 := sizeLine_eq
      have := List.length_take_le i t.cps.toList
      omega
    · have e : t.cps.toList[i]? = some d := by rw [Array.getElem?_toList]; exact hd'
      rw [upd_upd, take_next e, List.map_append]
      rfl
  · refine .inl ⟨by show t.cps.size ≤ i; omega, ?_⟩
    rw [List.take_of_length_le (by rw [Array.length_toList]; omega)]
    exact hd
end
theorem Same.seqT {K : PySem.W.Frag} {H H' : Hp} {a : Addr} {xs : List V} (e : Same H H') (h : SqT K H a xs) : SqT K H' a xs := by
  rcases h with (h | ⟨o, h⟩) | h
  · exact .inl (.inl (e _ _ h))
  · exact .inl (.inr ⟨o, e _ _ h⟩)
  · exact .inr h
end Y
namespace Y
open PySem PySem.Spec PyProof.Rows L2
section
variable {X : Cx} {x : Str} {pos : Pos}
/-- a name of the module: an int, a text, an object -/
theorem pgI {i : Int} {t : Tok} (hm : X.mg x = some (.int i t)) (hg : Gl X x := by rfl) (hd : (x == ("__debug__" : Str)) = false := by decide) : PE X (.Name x pos) (tC (.int i)) := pe_glob (v := .int i) hg hm ⟨_, rfl⟩ hd
theorem pgS {z : Str} {t : Tok} (hm : X.mg x = some (.str z t)) (hg : Gl X x := by rfl) (hd : (x == ("__debug__" : Str)) = false := by decide) : PE X (.Name x pos) (tC (.str z)) := pe_glob (v := .str z) hg hm ⟨_, rfl⟩ hd
theorem pgR {a : Addr} (hm : X.mg x = some (.ref a)) (hg : Gl X x := by rfl) (hd : (x == ("__debug__" : Str)) = false := by decide) : PE X (.Name x pos) (tC (.ref a)) := pe_glob (v := .ref a) hg hm rfl hd
/-- a built-in class as a value -/
theorem pbT {n : String} (hm : X.mg x = none) (hv : bootBuiltins x = some (.type n)) (hg : Gl X x := by rfl) (hn : x ≠ "__name__" := by decide) (hd : (x == ("__debug__" : Str)) = false := by decide) : PE X (.Name x pos) (tC (.ty n)) := pe_bltn (v := .ty n) hg hm hv rfl hn hd
end
theorem ifT {c : Bool} {A B : Prop} (h : c = true → A) (h2 : c = false → B) : if c = true then A else B := by
  cases c with
  | true => rw [if_pos rfl]; exact h rfl
  | false => rw [if_neg Bool.false_ne_true]; exact h2 rfl
theorem len_cps (t : Str) : t.cps.toList.length = t.length := by simp [Str.length]
theorem small_line {n : Nat} (h : n ≤ 1000) : n ≤ sizeLine := Nat.le_trans h (by decide)
end Y
set_option Elab.async false
set_option linter.all false
set_option maxRecDepth 100000
set_option maxHeartbeats 2000000
namespace Y
open PySem PySem.Spec PyProof.Rows L2 CwR TL Builtin
/-! ### text * number -/
def repS (z : Str) (n : Nat) : Str := ⟨(List.replicate n z.cps).foldl (· ++ ·) #[]⟩
theorem fold_rep (c : Array Nat) : ∀ (n : Nat) (a : Array Nat), ((List.replicate n c).foldl (· ++ ·) a).toList = a.toList ++ (List.replicate n c.toList).flatten
  | 0, a => by simp
  | n + 1, a => by
    rw [List.replicate_succ, List.foldl_cons, fold_rep c n]
    simp [List.replicate_succ, List.append_assoc]
theorem tl_rep (z : Str) (n : Nat) : tl (repS z n) = (List.replicate n (tl z)).flatten := by
  show ((List.replicate n z.cps).foldl (· ++ ·) #[]).toList = _
  rw [fold_rep]
  simp [tl]
theorem rep_one (z : Str) : repS z 1 = z := ext_tl (by rw [tl_rep]; simp)
theorem len_rep (z : Str) (n : Nat) : (repS z n).length = n * z.length := by
  rw [len_tl, tl_rep, len_tl z]
  induction n with
  | zero => simp
  | succ n ih => simp only [List.replicate_succ, List.flatten_cons, List.length_append, ih, Nat.succ_mul]; omega
/-- what text * n gives, token by token -/
theorem mul_run {X : Cx} {z : Str} {n : Int} {t u : Tok} {s : Shared} {Q E : Value → Shared → Prop} (h0 : 0 ≤ n) (h1 : n ≤ 1000) (hz : z.length ≤ 1000) (h : ∀ t' k, (n = 1 → t' = t) → (t' = t ∨ t' = s.toks) → Q (.str (repS z n.toNat) t') { s with toks := k }) :
    wpAny (model X.prog X.w) X.A (binaryOp .Mult (.str z t) (.int n u)) Q E s := by
  refine PySem.P.mul_str (by rw [decide_eq_false (show ¬ n < -(2 ^ 63 : Int) by omega), decide_eq_false (show ¬ n ≥ 2 ^ 63 by omega)]; rfl) (fun a b => ?_) (fun a b => ?_) ?_
  · have hn : (2 ^ 63 - 1 : Int) / n ≥ 1000 := by
      have := Int.le_ediv_of_mul_le (a := 1000) (b := (2 ^ 63 - 1 : Int)) (c := n) (by omega) (by omega)
      exact this
    omega
  · have hm : z.length * n.toNat ≤ 1000 * 1000 := Nat.mul_le_mul hz (by omega)
    unfold Builtin.Str.tooLong
    refine decide_eq_false ?_
    have : sizeLine = 16777216 := sizeLine_eq
    omega
  · by_cases c1 : n < 1
    · rw [if_pos c1]
      have e : n = 0 := by omega
      subst e
      exact ⟨by decide, h _ _ (by omega) (.inr rfl)⟩
    · rw [if_neg c1]
      by_cases c2 : (n == 1 || z.length == 0) = true
      · rw [if_pos c2]
        have e : repS z n.toNat = z := by
          rcases Bool.or_eq_true_iff.mp c2 with c | c
          · have : n = 1 := eq_of_beq c
            subst this
            exact rep_one z
          · have c' : z.length = 0 := eq_of_beq c
            refine ext_tl ?_
            have hz0 : tl z = [] := (len0_tl z).mp c'
            rw [tl_rep, hz0]
            simp
        have := h t s.toks (fun _ => rfl) (.inl rfl)
        rw [e] at this
        exact this
      · rw [if_neg c2]
        have hl : (repS z n.toNat).length ≤ sizeLine := by
          have hm : n.toNat * z.length ≤ 1000 * 1000 := Nat.mul_le_mul (by omega) hz
          rw [len_rep]
          have : sizeLine = 16777216 := sizeLine_eq
          omega
        have hn1 : n ≠ 1 := fun e => by subst e; exact c2 rfl
        exact ⟨hl, h _ _ (fun e => absurd e hn1) (.inr rfl)⟩
section
variable {X : Cx} {o e f a b : Expr} {te tf ta tb to : TE} {y z : Str} {j k : Nat} {c0 c1 p2 apos pos : Pos}
def rMulS : R2 := fun x y H Q => ∃ z n, x = .str z ∧ y = .int n ∧ 0 ≤ n ∧ n ≤ 1000 ∧ z.length ≤ 1000 ∧ Q (.str (repS z n.toNat)) H
theorem op_mul_str : OpR X (binaryOp .Mult) rMulS := by
  intro pins s σ H x y v u Q I rx ry h
  obtain ⟨z, n, rfl, rfl, h0, h1, hz, q⟩ := h
  obtain ⟨t, rfl⟩ := rx
  obtain ⟨t', rfl⟩ := ry
  exact mul_run h0 h1 hz fun t' k _ _ => ⟨.str (repS z n.toNat), H, I.tok _, ⟨_, rfl⟩, q⟩
/-! ### an expression that gives out a token -/
def PEg (X : Cx) (e : Expr) (t : TE) : Prop := ∀ (pins : List (Addr × Obj)) (s : Shared) (σ : L2.St) (H : Hp) (Q : VK), Inv X pins σ H s → t σ H Q →
    wpAny (model X.prog X.w) X.A (eval e X.env) (fun v s' => 1 ≤ s'.toks ∧ EP X pins σ Q v s') X.xe s
theorem peg_str : PEg X (.Constant (.str y) j c0) (tC (.str y)) := fun pins s σ H Q I h =>
  Calls.Constant_str ⟨by show 1 ≤ s.toks + 1; omega, .str y, H, I.tok _, ⟨_, rfl⟩, h⟩
theorem peg_op {op : Operator} {r : R2} (ho : OpR X (binaryOp op) r) (ha : PEg X a ta) (hb : PE X b tb) : PEg X (.BinOp a op b pos) (tOp r ta tb) := fun pins s σ H Q I h => by
  refine wpAny_BinOp (thn (ha pins s σ H _ I h) fun v s1 ⟨t1, x, H1, I1, r1, q1⟩ => ?_)
  refine wpAny_mono (PySem.wpAny_toks (hb.run pins s1 σ H1 _ I1 q1)) (fun u s2 ⟨t2, y, H2, I2, r2, q2⟩ => ?_) fun _ _ z => z.2
  exact wpAny_mono (PySem.wpAny_toks (ho pins s2 σ H2 x y v u Q I2 r1 r2 q2)) (fun w s3 ⟨t3, q3⟩ => ⟨Nat.le_trans t1 (Nat.le_trans t2 t3), q3⟩) fun _ _ z => z.2
theorem pe_opG {op : Operator} {r : R2} (ho : OpR X (binaryOp op) r) (ha : PEg X a ta) (hb : PET X b tb) : PE X (.BinOp a op b pos) (tOp r ta tb) := ⟨fun pins s σ H Q I h => by
  refine wpAny_BinOp (thn (ha pins s σ H _ I h) fun v s1 ⟨t1, x, H1, I1, r1, q1⟩ => ?_)
  exact thn (hb pins s1 σ H1 _ (by omega) I1 q1) fun u s2 ⟨y, H2, I2, r2, q2⟩ => ho pins s2 σ H2 x y v u Q I2 r1 r2 q2⟩
theorem peg_opG {op : Operator} {r : R2} (ho : OpR X (binaryOp op) r) (ha : PEg X a ta) (hb : PET X b tb) : PEg X (.BinOp a op b pos) (tOp r ta tb) := fun pins s σ H Q I h => by
  refine wpAny_BinOp (thn (ha pins s σ H _ I h) fun v s1 ⟨t1, x, H1, I1, r1, q1⟩ => ?_)
  refine wpAny_mono (PySem.wpAny_toks (hb pins s1 σ H1 _ (by omega) I1 q1)) (fun u s2 ⟨t2, y, H2, I2, r2, q2⟩ => ?_) fun _ _ z => z.2
  exact wpAny_mono (PySem.wpAny_toks (ho pins s2 σ H2 x y v u Q I2 r1 r2 q2)) (fun w s3 ⟨t3, q3⟩ => ⟨Nat.le_trans t1 (Nat.le_trans t2 t3), q3⟩) fun _ _ z => z.2
/-! ### o.replace(y, z * e): y and z may be one text -/
theorem booked {K : PySem.W.Frag} {h : Heap} (X : K.In h) (lim : h.NoLimit) (hk : PySem.W.nsIn K cStatics sharingNotToldKey = some none) : NoneBooked h := by
  obtain ⟨mc, h1, _⟩ := lim
  exact ⟨mc, h1, PySem.W.ns_none_of X h1 hk⟩
def tReplM (to : TE) (y z : Str) (te : TE) : TE := fun σ H Q => to σ H fun v H1 => ∃ x : Str, v = .str x ∧ te σ H1 fun w H2 => ∃ n : Int, w = .int n ∧ 0 ≤ n ∧ n ≤ 1000 ∧ z.length ≤ 1000 ∧ x.length + (x.length + 1) * (repS z n.toNat).length ≤ 16777216 ∧
  Q (.str (Txt.replace x y (repS z n.toNat))) H2
theorem pet_replM (hk : PySem.W.nsIn X.K cStatics sharingNotToldKey = some none) (ho : PE X o to) (he : PE X e te)
    (hst : starEach [.Constant (.str y) j c0, .BinOp (.Constant (.str z) k c1) .Mult e p2] X.env = [(false, eval (.Constant (.str y) j c0) X.env), (false, eval (.BinOp (.Constant (.str z) k c1) .Mult e p2) X.env)] := by rfl)
    (hbase : attributeBase o "replace" X.env (eval o X.env) = eval o X.env := by rfl) (hline : (apos.endLine == pos.line) = true := by rfl) :
    PET X (.Call (.Attribute o "replace" apos) [.Constant (.str y) j c0, .BinOp (.Constant (.str z) k c1) .Mult e p2] [] pos) (tReplM to y z te) := by
  intro pins s σ H Q h0 I h
  refine PySem.Call_method2 hbase hst hline (wpAny_mono (PySem.wpAny_toks (ho.run pins s σ H _ I h)) (fun v s1 q => ?_) fun _ _ z => z.2)
  obtain ⟨hk1, v', H1, I1, r1, x, e1, q⟩ := q
  subst e1
  obtain ⟨tx, e2⟩ := r1
  subst e2
  refine ⟨"str", _, PySem.F.plainAttrs_str, PySem.F.slot_str_replace, PySem.F.type_str_replace, typeIs_str _ _ _, (fun _ w => nomatch w), Calls.callWith_builtin rfl (Calls.evalArgs_plain (Calls.spliced_cons ?_))⟩
  refine Calls.Constant_str (Calls.spliced_cons ?_)
  refine wpAny_BinOp (Calls.Constant_str ?_)
  refine wpAny_mono (PySem.wpAny_toks (he.run pins { s1 with toks := s1.toks + 1 + 1 } σ H1 _ (I1.tok _) q)) (fun w s2 q => ?_) fun _ _ z => z.2
  obtain ⟨hk2, w', H2, I2, r2, n, e3, n0, n1, hz, hb, q⟩ := q
  subst e3
  obtain ⟨tn, e4⟩ := r2
  subst e4
  have hk3 : s1.toks + 1 + 1 ≤ s2.toks := hk2
  have u0 : s1.toks ≠ 0 := by omega
  refine mul_run n0 n1 hz fun t' kk _ ht => ?_
  have ht' : t' = s1.toks + 1 ∨ t' = s2.toks := ht
  have v0 : t' ≠ 0 := by
    rcases ht' with e | e <;> (rw [e])
    · exact Nat.succ_ne_zero _
    · exact Nat.ne_of_gt (Nat.lt_of_lt_of_le (Nat.succ_pos _) hk3)
  have uv : s1.toks ≠ t' := by
    rcases ht' with e | e <;> (rw [e])
    · exact Nat.ne_of_lt (Nat.lt_succ_self _)
    · exact Nat.ne_of_lt (Nat.lt_of_succ_lt hk3)
  refine Calls.spliced_nil ?_
  exact PySem.SC.replaceA u0 v0 uv hb (fun t3 k3 => ⟨.str (Txt.replace x y (repS z n.toNat)), H2, I2.tok k3, ⟨t3, rfl⟩, q⟩) (booked I2.kIn I2.nolimit hk)
end
end Y
set_option Elab.async false
set_option linter.all false
set_option maxRecDepth 100000
set_option maxHeartbeats 2000000
namespace Y
open PySem PySem.Spec PyProof.Rows L2
/-! ### own errors: made with one, two or three fields by their own first method -/
structure XcC (K : PySem.W.Frag) (C : Addr) : Prop where
  o : OexC K C
  x : XfC K C
  sf : PySem.W.subIn K (.ref C) (.ref C) = some true
  isC : PySem.W.isClsIn K C = true
/-- the promise of such a method: each field is kept under its name -/
def spX1 (C : Addr) (f : Str) : Sp := fun vs H Q _ => ∃ (a : Addr) (v : V), vs = [.ref a, v] ∧ H a = some (exo a C none) ∧
  ∀ dx, H dx = none → dx ≠ a → Q .non (upd (upd H dx (exd dx [(f, v)])) a (exo a C (some dx)))
/-- what C(v) asks, when C's first method keeps spX1 -/
theorem mk1 {C : Addr} {f : Str} {v : V} {H1 : Hp} {Q : XK} (h : ∀ (d : Addr) (H' : Hp), Same H1 H' → H1 d = none → H' d = some (.xd [(f, v)]) → Q (.ref C) (some d) H') :
    ([v] : List V).length ≤ 1000 ∧ ∀ a, H1 a = none → spX1 C f (.ref a :: ([v] ++ [])) (upd H1 a (exo a C none))
      (fun u H2 => u = .non ∧ ∃ (d : Addr) (fs : List (Str × V)), H2 a = some (exo a C (some d)) ∧ H2 d = some (exd d fs) ∧ H1 d = none ∧ Q (.ref C) (some d) (upd (del H2 a) d (.xd fs))) (fun _ _ _ => False) := by
  refine ⟨by show 1 ≤ 1000; decide, fun a ha => ⟨a, v, rfl, upd_same, fun dx hd hne => ⟨rfl, dx, [(f, v)], upd_same, by rw [upd_ne hne]; exact upd_same, by rw [upd_ne hne] at hd; exact hd, ?_⟩⟩⟩
  have hd1 : H1 dx = none := by rw [upd_ne hne] at hd; exact hd
  refine h dx _ (fun b o e => ?_) hd1 upd_same
  have n1 : b ≠ dx := ne_of_none e hd1
  have n2 : b ≠ a := ne_of_none e ha
  rw [upd_ne n1, del_ne n2, upd_ne n2, upd_ne n1, upd_ne n2]
  exact e
/-! ### isinstance of the caught error, which has fields -/
structure XiC (K : PySem.W.Frag) (C : Addr) : Prop where
  k0 : (PySem.W.clsIn K C).isSome = true
  k4 : PySem.W.findIn K (.ref C) "__getattribute__" = some (some (.builtin "BaseException.__getattribute__"))
  k5 : PySem.W.findIn K (.ref C) "__getattr__" = some none
  k6 : PySem.W.subIn K (.ref C) (.type "BaseException") = some true
  k7 : PySem.W.findIn K (.ref C) "__class__" = some (some (.builtin "object.__class__"))
  k8 : PySem.W.specialIn K (.builtin "object.__class__") "__get__" = some (some (.builtin "getset_descriptor.__get__"))
  k9 : PySem.W.takesIn K (.builtin "object.__class__") = some true
  k10 : PySem.W.mroIn K C (.type "object") = some true
def rIsX (K : PySem.W.Frag) (C a : Addr) (cls : Value) (d : Option Addr) : List V → Hp → VK → Prop := fun xs H Q => ∃ (c : V) (u : Value) (b : Bool) (dd : Addr) (fs : List (Str × V)), xs = [.ref a, c] ∧ ClsV c u ∧ cls = .ref C ∧ d = some dd ∧ H dd = some (.xd fs) ∧
  PySem.W.kitOne K (.ref C) u = some b ∧ Q (.bl b) H
theorem call_isX {X : Cx} {a C : Addr} {cls : Value} {d : Option Addr} {oe : Obj} {pn : List (Addr × Obj)} (T : XiC X.K C) (hz : Zc cls d oe) (hf : ∃ vs, oe.data = .fields vs) :
    CallR (X.suite a ((a, oe) :: pn)) (.builtin "isinstance") (rIsX X.K C a cls d) := by
  intro pins s σ H xs us Q I r h
  obtain ⟨c, u, b, dd, fs, rfl, k, rfl, rfl, ea, e, q⟩ := h
  cases r with
  | cons rx rr =>
    cases rr with
    | cons rt rr =>
      cases rr
      cases rx
      cases k.eq rt
      have hpin := (I.pin (a, oe) (List.mem_append.mpr (Or.inl List.mem_cons_self))).1
      obtain ⟨mA, hns, _⟩ := (show ObjOk X.prog X.w H s.heap dd (.xd fs) from I.hok dd _ ea)
      obtain ⟨od, ho, _⟩ := lookIn_ns hns
      obtain ⟨vs, hv⟩ := hf
      have J : PySem.W.InstAt s.heap a oe C (some od) := ⟨hpin, hz.1, by unfold PySem.W.notCls; rw [hv] <;> rfl, by rw [hz.2]; exact ho⟩
      exact PySem.W.kia_one (PySem.W.kitx_exc T.k0 T.k4 T.k5 T.k6 T.k7 T.k8 T.k9 T.k10) I.kIn J e (fun w => nomatch w) fun tk => ⟨.bl b, H, I.kept (t' := tk) fun _ _ w => w, rfl, q⟩
end Y
set_option linter.all false
set_option maxRecDepth 100000
namespace M3
def run (S : List Nat) : List Nat → Nat
  | [] => 0
  | c :: r => if c ∈ S then run S r + 1 else 0
def past (S t : List Nat) (a : Nat) : Nat := a + run S (t.drop a)
def letters : List Nat := [97, 98, 99, 100, 101, 102, 103, 104, 105, 106, 107, 108, 109, 110, 111, 112, 113, 114, 115, 116, 117, 118, 119, 120, 121, 122]
def runS : List Nat := [97, 98, 99, 100, 101, 102, 103, 104, 105, 106, 107, 108, 109, 110, 111, 112, 113, 114, 115, 116, 117, 118, 119, 120, 121, 122, 95, 48, 49, 50, 51, 52, 53, 54, 55, 56, 57]
def wYard : List Nat := [121, 97, 114, 100]
def wPlaces : List Nat := [112, 108, 97, 99, 101, 115]
def wTie : List Nat := [116, 105, 101]
def wWay : List Nat := [119, 97, 121]
def wRing : List Nat := [114, 105, 110, 103]
def wStand : List Nat := [115, 116, 97, 110, 100]
def wEnd : List Nat := [101, 110, 100]
def wTo : List Nat := [116, 111]
def wNever : List Nat := [110, 101, 118, 101, 114]
def words : List (List Nat) := [wYard, wPlaces, wTie, wWay, wRing, wStand, wEnd, wTo, wNever]
def pwords : List (List Nat) := [wTo, wNever]
def slice (t : List Nat) (a b : Nat) : List Nat := (t.drop a).take (b - a)
def isName (l : List Nat) : Bool := decide (1 ≤ l.length) && decide (l.length ≤ 12) && letters.contains (l.headD 0) && !words.contains l && l.all (runS.contains ·)
def readName (t : List Nat) (a : Nat) : Except Nat (List Nat × Nat) :=
  if isName (slice t a (past runS t a)) = true then .ok (slice t a (past runS t a), past runS t a)
  else if past runS t a = a then .error (a + 1)
  else if letters.contains (t.getD a 0) = false then .error (a + 1)
  else .error (min (past runS t a) (a + 12) + 1)
def pastGap (t : List Nat) (a : Nat) : Except Nat Nat := if past [32] t a = a then .error (a + 1) else .ok (past [32] t a)
/-- how far some word begins with what stands there: l the text from the place on, k signs being looked at -/
def wlen (ws : List (List Nat)) (l : List Nat) : Nat → Nat → Nat
  | 0, k => k
  | f + 1, k => if k < l.length ∧ ws.any (fun w => (l.take (k + 1)) == w.take (k + 1)) = true then wlen ws l f (k + 1) else k
def readWord (ws : List (List Nat)) (t : List Nat) (a : Nat) : Except Nat (List Nat × Nat) :=
  let e := a + wlen ws (t.drop a) t.length 0
  if ws.contains (slice t a e) = true then .ok (slice t a e, e) else .error (e + 1)
def checkEnd (t : List Nat) (a : Nat) : Except Nat Unit := if past [32] t a < t.length then .error (past [32] t a + 1) else .ok ()
def promiseOf (t : List Nat) : Except Nat (List Nat × List Nat × List Nat × List Nat) := do
  let (y, e) ← readName t (past [32] t 0)
  let g ← pastGap t e
  let (o, e) ← readName t g
  let g ← pastGap t e
  let (w, e) ← readWord pwords t g
  let g ← pastGap t e
  let (x, e) ← readName t g
  checkEnd t e
  .ok (y, w, o, x)
def why (t : List Nat) : Option Nat := match promiseOf t with | .ok _ => none | .error c => some c
/-! ### what stands there -/
theorem run_le (S : List Nat) : ∀ l : List Nat, run S l ≤ l.length
  | [] => Nat.le_refl _
  | c :: r => by
    unfold run
    split
    · have := run_le S r
      simp only [List.length_cons]
      omega
    · exact Nat.zero_le _
theorem past_le (S t : List Nat) (a : Nat) (h : a ≤ t.length) : a ≤ past S t a ∧ past S t a ≤ t.length := by
  have := run_le S (t.drop a)
  rw [List.length_drop] at this
  unfold past
  omega
theorem run_hit {S l : List Nat} {c : Nat} (h : c ∈ S) : run S (c :: l) = run S l + 1 := if_pos h
theorem run_miss {S l : List Nat} {c : Nat} (h : c ∉ S) : run S (c :: l) = 0 := if_neg h
/-- one sign more -/
theorem past_step {S t : List Nat} {e c : Nat} (h : t[e]? = some c) (hc : c ∈ S) : past S t e = past S t (e + 1) := by
  unfold past
  rw [show t.drop e = c :: t.drop (e + 1) from ?_, run_hit hc]
  · omega
  · obtain ⟨h1, h2⟩ := List.getElem?_eq_some_iff.mp h
    rw [← h2]
    exact List.drop_eq_getElem_cons h1
theorem past_stop {S t : List Nat} {e c : Nat} (h : t[e]? = some c) (hc : c ∉ S) : past S t e = e := by
  unfold past
  obtain ⟨h1, h2⟩ := List.getElem?_eq_some_iff.mp h
  rw [List.drop_eq_getElem_cons h1, h2, run_miss hc]
  omega
theorem past_end {S t : List Nat} {e : Nat} (h : t.length ≤ e) : past S t e = e := by
  unfold past
  rw [List.drop_eq_nil_of_le h]
  rfl
theorem readName_le {t : List Nat} {a e : Nat} {l : List Nat} (ha : a ≤ t.length) (h : readName t a = .ok (l, e)) : e ≤ t.length := by
  unfold readName at h
  have := past_le runS t a ha
  split at h
  · cases h; exact this.2
  · split at h
    · cases h
    · split at h <;> cases h
theorem pastGap_le {t : List Nat} {a e : Nat} (ha : a ≤ t.length) (h : pastGap t a = .ok e) : e ≤ t.length := by
  unfold pastGap at h
  have := past_le [32] t a ha
  split at h
  · cases h
  · cases h; exact this.2
theorem wlen_hit {ws : List (List Nat)} {l : List Nat} {f k : Nat} (h1 : k < l.length) (h2 : (ws.any fun w => (l.take (k + 1)) == w.take (k + 1)) = true) : wlen ws l (f + 1) k = wlen ws l f (k + 1) := if_pos ⟨h1, h2⟩
theorem wlen_miss {ws : List (List Nat)} {l : List Nat} {f k : Nat} (h : ¬ (k < l.length ∧ (ws.any fun w => (l.take (k + 1)) == w.take (k + 1)) = true)) : wlen ws l (f + 1) k = k := if_neg h
theorem wlen_le (ws : List (List Nat)) (l : List Nat) : ∀ f k, k ≤ l.length → wlen ws l f k ≤ l.length
  | 0, k, h => h
  | f + 1, k, h => by
    unfold wlen
    split
    · rename_i c
      exact wlen_le ws l f (k + 1) c.1
    · exact h
theorem readWord_le {ws : List (List Nat)} {t : List Nat} {a e : Nat} {l : List Nat} (ha : a ≤ t.length) (h : readWord ws t a = .ok (l, e)) : e ≤ t.length := by
  unfold readWord at h
  have := wlen_le ws (t.drop a) t.length 0 (Nat.zero_le _)
  rw [List.length_drop] at this
  dsimp only at h
  split at h
  · cases h; omega
  · cases h
/-! ### a text in parts -/
theorem run_app {S n r : List Nat} (h : ∀ c ∈ n, c ∈ S) : run S (n ++ r) = n.length + run S r := by
  induction n with
  | nil => simp
  | cons c n ih =>
    rw [List.cons_append, run_hit (h c List.mem_cons_self), ih (fun d hd => h d (List.mem_cons_of_mem _ hd)), List.length_cons]
    omega
/-- the rest begins with no sign of S -/
def Off (S r : List Nat) : Prop := ∀ c q, r = c :: q → c ∉ S
theorem run_off {S r : List Nat} (h : Off S r) : run S r = 0 := by
  cases r with
  | nil => rfl
  | cons c q => exact run_miss (h c q rfl)
theorem past_at {S p n r : List Nat} (h : ∀ c ∈ n, c ∈ S) (hr : Off S r) : past S (p ++ (n ++ r)) p.length = p.length + n.length := by
  unfold past
  rw [List.drop_left, run_app h, run_off hr]
  omega
theorem slice_at (p n r : List Nat) : slice (p ++ (n ++ r)) p.length (p.length + n.length) = n := by
  unfold slice
  rw [List.drop_left, show p.length + n.length - p.length = n.length by omega, List.take_left]
theorem isName_run {n : List Nat} (h : isName n = true) : (∀ c ∈ n, c ∈ runS) ∧ 1 ≤ n.length ∧ n.length ≤ 12 := by
  unfold isName at h
  simp only [Bool.and_eq_true, decide_eq_true_eq, List.all_eq_true, List.contains_iff_mem] at h
  exact ⟨h.2, h.1.1.1.1, h.1.1.1.2⟩
theorem readName_ok {p n r : List Nat} (h : isName n = true) (hr : Off runS r) : readName (p ++ (n ++ r)) p.length = .ok (n, p.length + n.length) := by
  unfold readName
  rw [past_at (isName_run h).1 hr, slice_at, if_pos h]
theorem readName_bad {p r : List Nat} (hr : Off runS r) : readName (p ++ r) p.length = .error (p.length + 1) := by
  unfold readName
  have e : past runS (p ++ r) p.length = p.length := by
    have := past_at (p := p) (n := []) (S := runS) (r := r) (fun c h => by cases h) hr
    simpa using this
  rw [e]
  have e2 : slice (p ++ r) p.length p.length = [] := by
    unfold slice
    simp
  rw [e2, if_neg (by decide), if_pos rfl]
def sp (k : Nat) : List Nat := List.replicate k 32
theorem sp_mem (k : Nat) : ∀ c ∈ sp k, c ∈ ([32] : List Nat) := fun c h => by
  rw [List.eq_of_mem_replicate h]
  exact List.mem_singleton.mpr rfl
theorem sp_len (k : Nat) : (sp k).length = k := List.length_replicate
theorem gap_ok {p r : List Nat} {k : Nat} (hk : 1 ≤ k) (hr : Off [32] r) : pastGap (p ++ (sp k ++ r)) p.length = .ok (p.length + k) := by
  unfold pastGap
  rw [past_at (sp_mem k) hr, sp_len, if_neg (by omega)]
theorem gap_bad {p r : List Nat} (hr : Off [32] r) : pastGap (p ++ r) p.length = .error (p.length + 1) := by
  unfold pastGap
  have e : past [32] (p ++ r) p.length = p.length := by
    have := past_at (p := p) (n := []) (S := [32]) (r := r) (fun c h => by cases h) hr
    simpa using this
  rw [e, if_pos rfl]
/-! ### whole promise texts -/
theorem off_nil (S : List Nat) : Off S [] := fun c q h => by cases h
theorem off_cons {S r : List Nat} {c : Nat} (h : c ∉ S) : Off S (c :: r) := fun d q e => by cases e; exact h
theorem off_sp {k : Nat} {r : List Nat} (hr : k = 0 → Off runS r) : Off runS (sp k ++ r) := by
  cases k with
  | zero => exact hr rfl
  | succ k => exact off_cons (by decide)
theorem off_name {n r : List Nat} (h : isName n = true) : Off [32] (n ++ r) := by
  obtain ⟨h1, h2, _⟩ := isName_run h
  cases n with
  | nil => simp at h2
  | cons c q =>
    refine off_cons fun hc => ?_
    have := h1 c List.mem_cons_self
    rw [List.mem_singleton.mp hc] at this
    exact absurd this (by decide)
/-- to or never, as the word of a promise -/
def isKind (w : List Nat) : Prop := w = wTo ∨ w = wNever
theorem off_kind {w r : List Nat} (h : isKind w) : Off [32] (w ++ r) := by
  rcases h with rfl | rfl <;> exact off_cons (by decide)
theorem len_app3 (p a b : List Nat) : (p ++ (a ++ b)).length = p.length + (a.length + b.length) := by simp
/-- the word to, or never, stands there, whatever behind it -/
theorem word_ok {p w r : List Nat} (h : isKind w) : readWord pwords (p ++ (w ++ r)) p.length = .ok (w, p.length + w.length) := by
  unfold readWord
  have e : wlen pwords ((p ++ (w ++ r)).drop p.length) (p ++ (w ++ r)).length 0 = w.length := by
    rw [List.drop_left, len_app3]
    rcases h with rfl | rfl
    · obtain ⟨f, hf⟩ : ∃ f, p.length + (wTo.length + r.length) = f + 2 := ⟨p.length + r.length, by simp [wTo]; omega⟩
      rw [hf]
      unfold wlen
      rw [if_pos ⟨by simp [wTo], by rfl⟩]
      unfold wlen
      rw [if_pos ⟨by simp [wTo], by rfl⟩]
      cases f with
      | zero => rfl
      | succ f =>
        unfold wlen
        rw [if_neg]
        · rfl
        · rintro ⟨h1, h2⟩
          cases r with
          | nil => simp [wTo] at h1
          | cons c q => exact absurd h2 (by simp [wTo, wNever, pwords])
    · obtain ⟨f, hf⟩ : ∃ f, p.length + (wNever.length + r.length) = f + 5 := ⟨p.length + r.length, by simp [wNever]; omega⟩
      rw [hf]
      iterate 5 (unfold wlen; rw [if_pos ⟨by simp [wNever], by rfl⟩])
      cases f with
      | zero => rfl
      | succ f =>
        unfold wlen
        rw [if_neg]
        · rfl
        · rintro ⟨h1, h2⟩
          cases r with
          | nil => simp [wNever] at h1
          | cons c q => exact absurd h2 (by simp [wTo, wNever, pwords])
  dsimp only
  rw [e, slice_at]
  rcases h with rfl | rfl <;> rfl
/-- a sign that begins neither word -/
theorem word_bad {p r : List Nat} (hr : ∀ c q, r = c :: q → c ≠ 116 ∧ c ≠ 110) : readWord pwords (p ++ r) p.length = .error (p.length + 1) := by
  unfold readWord
  have e : wlen pwords ((p ++ r).drop p.length) (p ++ r).length 0 = 0 := by
    rw [List.drop_left]
    cases (p ++ r).length with
    | zero => rfl
    | succ f =>
      unfold wlen
      rw [if_neg]
      rintro ⟨h1, h2⟩
      cases r with
      | nil => simp at h1
      | cons c q =>
        obtain ⟨a1, a2⟩ := hr c q rfl
        simp [wTo, wNever, pwords] at h2
        rcases h2 with h2 | h2
        · exact a1 h2
        · exact a2 h2
  dsimp only
  rw [e]
  have e2 : slice (p ++ r) p.length (p.length + 0) = [] := by
    unfold slice
    simp
  rw [e2]
  rfl
theorem sp0 : sp 0 = [] := rfl
theorem kind_run {w : List Nat} (h : isKind w) : ∀ c ∈ w, c ∈ runS := by rcases h with rfl | rfl <;> decide
theorem promise_ok {n1 n2 n3 w : List Nat} {a b e : Nat} (h1 : isName n1 = true) (h2 : isName n2 = true) (h3 : isName n3 = true) (hw : isKind w) (hb : 1 ≤ b) :
    promiseOf (sp a ++ (n1 ++ (sp b ++ (n2 ++ (sp b ++ (w ++ (sp b ++ (n3 ++ sp e)))))))) = .ok (n1, w, n2, n3) := by
  have g0 : past [32] (sp a ++ (n1 ++ (sp b ++ (n2 ++ (sp b ++ (w ++ (sp b ++ (n3 ++ sp e)))))))) 0 = (sp a).length := by
    have := past_at (S := [32]) (p := []) (n := sp a) (r := n1 ++ (sp b ++ (n2 ++ (sp b ++ (w ++ (sp b ++ (n3 ++ sp e))))))) (sp_mem a) (off_name h1)
    simpa using this
  have ob : ∀ r, Off runS (sp b ++ r) := fun r => off_sp (fun z => by omega)
  have r1 := readName_ok (p := sp a) h1 (ob (n2 ++ (sp b ++ (w ++ (sp b ++ (n3 ++ sp e))))))
  have q1 := gap_ok (p := sp a ++ n1) hb (off_name (r := sp b ++ (w ++ (sp b ++ (n3 ++ sp e)))) h2)
  have r2 := readName_ok (p := sp a ++ (n1 ++ sp b)) h2 (ob (w ++ (sp b ++ (n3 ++ sp e))))
  have q2 := gap_ok (p := sp a ++ (n1 ++ (sp b ++ n2))) hb (off_kind (r := sp b ++ (n3 ++ sp e)) hw)
  have r3 := word_ok (p := sp a ++ (n1 ++ (sp b ++ (n2 ++ sp b)))) (r := sp b ++ (n3 ++ sp e)) hw
  have q3 := gap_ok (p := sp a ++ (n1 ++ (sp b ++ (n2 ++ (sp b ++ w))))) hb (off_name (r := sp e) h3)
  have r4 := readName_ok (p := sp a ++ (n1 ++ (sp b ++ (n2 ++ (sp b ++ (w ++ sp b)))))) h3 (show Off runS (sp e) from by
    have := off_sp (k := e) (r := []) (fun _ => off_nil _)
    simpa using this)
  have c1 : checkEnd (sp a ++ (n1 ++ (sp b ++ (n2 ++ (sp b ++ (w ++ (sp b ++ (n3 ++ sp e)))))))) (sp a ++ (n1 ++ (sp b ++ (n2 ++ (sp b ++ (w ++ (sp b ++ n3))))))).length = .ok () := by
    unfold checkEnd
    have := past_at (S := [32]) (p := sp a ++ (n1 ++ (sp b ++ (n2 ++ (sp b ++ (w ++ (sp b ++ n3))))))) (n := sp e) (r := []) (sp_mem e) (off_nil _)
    simp only [List.append_assoc, List.append_nil, List.length_append] at this ⊢
    rw [this, if_neg (by omega)]
  simp only [List.append_assoc, List.length_append, sp_len] at *
  unfold promiseOf
  simp only [g0, r1, q1, r2, q2, r3, q3, r4, bind, Except.bind, Nat.add_assoc] at *
  simp only [g0, r1, q1, r2, q2, r3, q3, r4, c1, Nat.add_assoc]
/-- a sign that belongs nowhere -/
def Odd (c : Nat) : Prop := c ∉ runS ∧ c ≠ 32
theorem Odd.off {c : Nat} {s : List Nat} (h : Odd c) : Off runS (c :: s) := off_cons h.1
theorem Odd.off32 {c : Nat} {s : List Nat} (h : Odd c) : Off [32] (c :: s) := off_cons fun z => h.2 (List.mem_singleton.mp z)
theorem Odd.kind {c : Nat} {s : List Nat} (h : Odd c) : ∀ d q, c :: s = d :: q → d ≠ 116 ∧ d ≠ 110 := fun d q e => by
  cases e
  exact ⟨fun z => h.1 (by rw [z]; decide), fun z => h.1 (by rw [z]; decide)⟩
section
variable {n1 n2 n3 w s : List Nat} {c : Nat} (h1 : isName n1 = true) (h2 : isName n2 = true) (h3 : isName n3 = true) (hw : isKind w) (hc : Odd c)
theorem past0 {r : List Nat} (h : Off [32] r) : past [32] r 0 = 0 := by
  have := past_at (S := [32]) (p := []) (n := []) (r := r) (fun c h => by cases h) h
  simpa using this
theorem off1 (r : List Nat) : Off runS (sp 1 ++ r) := off_sp (fun z => by omega)
include hc in
theorem bad0 : promiseOf (c :: s) = .error 1 := by
  have r1 := readName_bad (p := []) (hc.off (s := s))
  simp only [List.nil_append, List.length_nil] at r1
  unfold promiseOf
  rw [past0 hc.off32, r1]
  rfl
include h1 hc in
theorem bad1 : promiseOf (n1 ++ (c :: s)) = .error (n1.length + 1) := by
  have r1 := readName_ok (p := []) h1 (hc.off (s := s))
  have q1 := gap_bad (p := n1) (hc.off32 (s := s))
  simp only [List.nil_append, List.length_nil, Nat.zero_add] at r1
  unfold promiseOf
  rw [past0 (off_name h1), r1]
  simp only [bind, Except.bind, q1]
include h1 hc in
theorem bad2 : promiseOf (n1 ++ (sp 1 ++ (c :: s))) = .error ((n1 ++ sp 1).length + 1) := by
  have r1 := readName_ok (p := []) h1 (off1 (c :: s))
  have q1 := gap_ok (p := n1) (k := 1) (Nat.le_refl 1) (hc.off32 (s := s))
  have r2 := readName_bad (p := n1 ++ sp 1) (hc.off (s := s))
  simp only [List.nil_append, List.length_nil, Nat.zero_add, List.append_assoc, List.length_append, sp_len] at *
  unfold promiseOf
  rw [past0 (off_name h1), r1]
  simp only [bind, Except.bind, q1, r2]
include h1 h2 hc in
theorem bad3 : promiseOf (n1 ++ (sp 1 ++ (n2 ++ (c :: s)))) = .error ((n1 ++ (sp 1 ++ n2)).length + 1) := by
  have r1 := readName_ok (p := []) h1 (off1 (n2 ++ (c :: s)))
  have q1 := gap_ok (p := n1) (k := 1) (Nat.le_refl 1) (off_name (r := c :: s) h2)
  have r2 := readName_ok (p := n1 ++ sp 1) h2 (hc.off (s := s))
  have q2 := gap_bad (p := n1 ++ (sp 1 ++ n2)) (hc.off32 (s := s))
  simp only [List.nil_append, List.length_nil, Nat.zero_add, List.append_assoc, List.length_append, sp_len, Nat.add_assoc] at *
  unfold promiseOf
  rw [past0 (off_name h1), r1]
  simp only [bind, Except.bind, q1, r2, q2]
include h1 h2 hc in
theorem bad4 : promiseOf (n1 ++ (sp 1 ++ (n2 ++ (sp 1 ++ (c :: s))))) = .error ((n1 ++ (sp 1 ++ (n2 ++ sp 1))).length + 1) := by
  have r1 := readName_ok (p := []) h1 (off1 (n2 ++ (sp 1 ++ (c :: s))))
  have q1 := gap_ok (p := n1) (k := 1) (Nat.le_refl 1) (off_name (r := sp 1 ++ (c :: s)) h2)
  have r2 := readName_ok (p := n1 ++ sp 1) h2 (off1 (c :: s))
  have q2 := gap_ok (p := n1 ++ (sp 1 ++ n2)) (k := 1) (Nat.le_refl 1) (hc.off32 (s := s))
  have r3 := word_bad (p := n1 ++ (sp 1 ++ (n2 ++ sp 1))) (hc.kind (s := s))
  simp only [List.nil_append, List.length_nil, Nat.zero_add, List.append_assoc, List.length_append, sp_len, Nat.add_assoc] at *
  unfold promiseOf
  rw [past0 (off_name h1), r1]
  simp only [bind, Except.bind, q1, r2, q2, r3]
include h1 h2 hw hc in
theorem bad5 : promiseOf (n1 ++ (sp 1 ++ (n2 ++ (sp 1 ++ (w ++ (c :: s)))))) = .error ((n1 ++ (sp 1 ++ (n2 ++ (sp 1 ++ w)))).length + 1) := by
  have r1 := readName_ok (p := []) h1 (off1 (n2 ++ (sp 1 ++ (w ++ (c :: s)))))
  have q1 := gap_ok (p := n1) (k := 1) (Nat.le_refl 1) (off_name (r := sp 1 ++ (w ++ (c :: s))) h2)
  have r2 := readName_ok (p := n1 ++ sp 1) h2 (off1 (w ++ (c :: s)))
  have q2 := gap_ok (p := n1 ++ (sp 1 ++ n2)) (k := 1) (Nat.le_refl 1) (off_kind (r := c :: s) hw)
  have r3 := word_ok (p := n1 ++ (sp 1 ++ (n2 ++ sp 1))) (r := c :: s) hw
  have q3 := gap_bad (p := n1 ++ (sp 1 ++ (n2 ++ (sp 1 ++ w)))) (hc.off32 (s := s))
  simp only [List.nil_append, List.length_nil, Nat.zero_add, List.append_assoc, List.length_append, sp_len, Nat.add_assoc] at *
  unfold promiseOf
  rw [past0 (off_name h1), r1]
  simp only [bind, Except.bind, q1, r2, q2, r3, q3]
include h1 h2 hw hc in
theorem bad6 : promiseOf (n1 ++ (sp 1 ++ (n2 ++ (sp 1 ++ (w ++ (sp 1 ++ (c :: s))))))) = .error ((n1 ++ (sp 1 ++ (n2 ++ (sp 1 ++ (w ++ sp 1))))).length + 1) := by
  have r1 := readName_ok (p := []) h1 (off1 (n2 ++ (sp 1 ++ (w ++ (sp 1 ++ (c :: s))))))
  have q1 := gap_ok (p := n1) (k := 1) (Nat.le_refl 1) (off_name (r := sp 1 ++ (w ++ (sp 1 ++ (c :: s)))) h2)
  have r2 := readName_ok (p := n1 ++ sp 1) h2 (off1 (w ++ (sp 1 ++ (c :: s))))
  have q2 := gap_ok (p := n1 ++ (sp 1 ++ n2)) (k := 1) (Nat.le_refl 1) (off_kind (r := sp 1 ++ (c :: s)) hw)
  have r3 := word_ok (p := n1 ++ (sp 1 ++ (n2 ++ sp 1))) (r := sp 1 ++ (c :: s)) hw
  have q3 := gap_ok (p := n1 ++ (sp 1 ++ (n2 ++ (sp 1 ++ w)))) (k := 1) (Nat.le_refl 1) (hc.off32 (s := s))
  have r4 := readName_bad (p := n1 ++ (sp 1 ++ (n2 ++ (sp 1 ++ (w ++ sp 1))))) (hc.off (s := s))
  simp only [List.nil_append, List.length_nil, Nat.zero_add, List.append_assoc, List.length_append, sp_len, Nat.add_assoc] at *
  unfold promiseOf
  rw [past0 (off_name h1), r1]
  simp only [bind, Except.bind, q1, r2, q2, r3, q3, r4]
include h1 h2 h3 hw hc in
theorem bad7 : promiseOf (n1 ++ (sp 1 ++ (n2 ++ (sp 1 ++ (w ++ (sp 1 ++ (n3 ++ (c :: s)))))))) = .error ((n1 ++ (sp 1 ++ (n2 ++ (sp 1 ++ (w ++ (sp 1 ++ n3)))))).length + 1) := by
  have r1 := readName_ok (p := []) h1 (off1 (n2 ++ (sp 1 ++ (w ++ (sp 1 ++ (n3 ++ (c :: s)))))))
  have q1 := gap_ok (p := n1) (k := 1) (Nat.le_refl 1) (off_name (r := sp 1 ++ (w ++ (sp 1 ++ (n3 ++ (c :: s))))) h2)
  have r2 := readName_ok (p := n1 ++ sp 1) h2 (off1 (w ++ (sp 1 ++ (n3 ++ (c :: s)))))
  have q2 := gap_ok (p := n1 ++ (sp 1 ++ n2)) (k := 1) (Nat.le_refl 1) (off_kind (r := sp 1 ++ (n3 ++ (c :: s))) hw)
  have r3 := word_ok (p := n1 ++ (sp 1 ++ (n2 ++ sp 1))) (r := sp 1 ++ (n3 ++ (c :: s))) hw
  have q3 := gap_ok (p := n1 ++ (sp 1 ++ (n2 ++ (sp 1 ++ w)))) (k := 1) (Nat.le_refl 1) (off_name (r := c :: s) h3)
  have r4 := readName_ok (p := n1 ++ (sp 1 ++ (n2 ++ (sp 1 ++ (w ++ sp 1))))) h3 (hc.off (s := s))
  have q4 := past_at (S := [32]) (p := n1 ++ (sp 1 ++ (n2 ++ (sp 1 ++ (w ++ (sp 1 ++ n3)))))) (n := []) (r := c :: s) (fun c h => by cases h) hc.off32
  simp only [List.nil_append, List.length_nil, Nat.zero_add, List.append_assoc, List.length_append, sp_len, Nat.add_assoc, Nat.add_zero] at *
  unfold promiseOf
  rw [past0 (off_name h1), r1]
  simp only [bind, Except.bind, q1, r2, q2, r3, q3, r4, checkEnd, q4]
  rw [if_pos (by simp only [List.length_append, List.length_cons, sp_len]; omega)]
  simp only [Nat.add_assoc]
end
/-! ### where a sign may be put in -/
def plain (n1 n2 n3 w : List Nat) : List Nat := n1 ++ (sp 1 ++ (n2 ++ (sp 1 ++ (w ++ (sp 1 ++ n3)))))
theorem at32 {n r : List Nat} {i : Nat} (hn : 32 ∉ n) (h : (n ++ (sp 1 ++ r))[i]? = some 32) : i = n.length ∨ ∃ j, i = n.length + 1 + j ∧ r[j]? = some 32 := by
  by_cases c1 : i < n.length
  · rw [List.getElem?_append_left c1] at h
    exact absurd (List.mem_of_getElem? h) hn
  · rw [List.getElem?_append_right (by omega)] at h
    by_cases c2 : i = n.length
    · exact .inl c2
    · refine .inr ⟨i - n.length - 1, by omega, ?_⟩
      rw [List.getElem?_append_right (by rw [sp_len]; omega), sp_len] at h
      exact h
theorem no32 {l : List Nat} (h : ∀ c ∈ l, c ∈ runS) : 32 ∉ l := fun z => absurd (h 32 z) (by decide)
theorem put_in {n1 n2 n3 w : List Nat} {c a : Nat} (h1 : isName n1 = true) (h2 : isName n2 = true) (h3 : isName n3 = true) (hw : isKind w) (hc : Odd c) (ha : a ≤ (plain n1 n2 n3 w).length)
    (hp : a = 0 ∨ a = (plain n1 n2 n3 w).length ∨ (plain n1 n2 n3 w)[a]? = some 32 ∨ (1 ≤ a ∧ (plain n1 n2 n3 w)[a - 1]? = some 32)) :
    promiseOf ((plain n1 n2 n3 w).take a ++ (c :: (plain n1 n2 n3 w).drop a)) = .error (a + 1) := by
  have m1 := no32 (isName_run h1).1
  have m2 := no32 (isName_run h2).1
  have m3 := no32 (isName_run h3).1
  have mw := no32 (kind_run hw)
  have cut : ∀ {p s : List Nat}, plain n1 n2 n3 w = p ++ s → a = p.length → promiseOf (p ++ (c :: s)) = .error (p.length + 1) → promiseOf ((plain n1 n2 n3 w).take a ++ (c :: (plain n1 n2 n3 w).drop a)) = .error (a + 1) := fun e1 e2 e3 => by
    rw [e1, e2, List.take_left, List.drop_left]
    exact e3
  have where32 : ∀ i, (plain n1 n2 n3 w)[i]? = some 32 → i = n1.length ∨ i = n1.length + 1 + n2.length ∨ i = n1.length + 1 + (n2.length + 1 + w.length) := fun i h => by
    rcases at32 m1 h with e | ⟨j, e, h⟩
    · exact .inl e
    · rcases at32 m2 h with e' | ⟨k, e', h⟩
      · exact .inr (.inl (by omega))
      · rcases at32 mw h with e'' | ⟨m, e'', h⟩
        · exact .inr (.inr (by omega))
        · exact absurd (List.mem_of_getElem? h) m3
  rcases hp with e | e | h | ⟨h0, h⟩
  · exact cut (p := []) rfl (by simpa using e) (bad0 hc)
  · refine cut (p := plain n1 n2 n3 w) (s := []) (by simp) e ?_
    have := bad7 (s := []) h1 h2 h3 hw hc
    simpa only [plain, List.append_assoc] using this
  · rcases where32 a h with e | e | e
    · exact cut (p := n1) rfl e (bad1 h1 hc)
    · refine cut (p := n1 ++ (sp 1 ++ n2)) (s := sp 1 ++ (w ++ (sp 1 ++ n3))) (by simp [plain]) (by simp [sp_len]; omega) ?_
      have := bad3 (s := sp 1 ++ (w ++ (sp 1 ++ n3))) h1 h2 hc
      simpa only [List.append_assoc] using this
    · refine cut (p := n1 ++ (sp 1 ++ (n2 ++ (sp 1 ++ w)))) (s := sp 1 ++ n3) (by simp [plain]) (by simp [sp_len]; omega) ?_
      have := bad5 (s := sp 1 ++ n3) h1 h2 hw hc
      simpa only [List.append_assoc] using this
  · rcases where32 (a - 1) h with e | e | e
    · refine cut (p := n1 ++ sp 1) (s := n2 ++ (sp 1 ++ (w ++ (sp 1 ++ n3)))) (by simp [plain]) (by simp [sp_len]; omega) ?_
      have := bad2 (s := n2 ++ (sp 1 ++ (w ++ (sp 1 ++ n3)))) h1 hc
      simpa only [List.append_assoc] using this
    · refine cut (p := n1 ++ (sp 1 ++ (n2 ++ sp 1))) (s := w ++ (sp 1 ++ n3)) (by simp [plain]) (by simp [sp_len]; omega) ?_
      have := bad4 (s := w ++ (sp 1 ++ n3)) h1 h2 hc
      simpa only [List.append_assoc] using this
    · refine cut (p := n1 ++ (sp 1 ++ (n2 ++ (sp 1 ++ (w ++ sp 1))))) (s := n3) (by simp [plain]) (by simp [sp_len]; omega) ?_
      have := bad6 (s := n3) h1 h2 hw hc
      simpa only [List.append_assoc] using this
end M3
set_option Elab.async false
set_option linter.all false
set_option maxRecDepth 100000
set_option maxHeartbeats 4000000
namespace Y
open PySem L2 TL
abbrev sInit : Stmt := inClass (top 2) 0
abbrev sIsName : Stmt := top 9
abbrev sSigns : Stmt := top 10
abbrev sSpaces : Stmt := top 11
abbrev sGap : Stmt := top 12
abbrev sEnd : Stmt := top 13
abbrev sWord : Stmt := top 14
abbrev sRName : Stmt := top 15
abbrev sPromise : Stmt := top 16
abbrev sPText : Stmt := top 17
/-- a text by its codes -/
def mk (l : List Nat) : Str := ⟨l.toArray⟩
theorem tl_of_mk (l : List Nat) : tl (mk l) = l := rfl
theorem mk_of_tl (t : Str) : mk (tl t) = t := ext_tl rfl
def kWords : List V := [.str "yard", .str "places", .str "tie", .str "way", .str "ring", .str "stand", .str "end", .str "to", .str "never"]
structure T3 (K : PySem.W.Frag) (mg : Str → Option Value) (C fI fName fSigns fSpaces fGap fEnd fWord fRName fPromise : Addr) : Prop where
  isi : mg "isinstance" = none
  str : mg "str" = none
  len : mg "len" = none
  all : mg "all" = none
  any : mg "any" = none
  min : mg "min" = none
  gLet : ∃ t, mg "LETTERS" = some (.str "abcdefghijklmnopqrstuvwxyz" t)
  gRun : ∃ t, mg "RUN_SIGNS" = some (.str "abcdefghijklmnopqrstuvwxyz_0123456789" t)
  gMost : ∃ t, mg "NAME_MOST" = some (.int 12 t)
  gWords : ∃ a, mg "WORDS" = some (.ref a) ∧ ∀ H, SqT K H a kWords
  gPW : ∃ a, mg "PROMISE_WORDS" = some (.ref a) ∧ ∀ H, SqT K H a [.str "to", .str "never"]
  gC : mg "BadText" = some (.ref C)
  xc : XcC K C
  iC : PySem.W.findIn K (.ref C) "__init__" = some (some (.ref fI))
  tI : PySem.W.typeIn K (.ref fI) = some (.type "function")
  nC : PySem.W.findIn K (.ref C) "column" = some none
  gName : mg "is_name" = some (.ref fName)
  gSigns : mg "past_signs" = some (.ref fSigns)
  gSpaces : mg "past_spaces" = some (.ref fSpaces)
  gGap : mg "past_gap" = some (.ref fGap)
  gEnd : mg "check_end" = some (.ref fEnd)
  gWord : mg "read_word" = some (.ref fWord)
  gRName : mg "read_name" = some (.ref fRName)
  gPromise : mg "promise_of" = some (.ref fPromise)
theorem runS_tl : tl ("abcdefghijklmnopqrstuvwxyz_0123456789" : Str) = M3.runS := by decide +kernel
theorem let_tl : tl ("abcdefghijklmnopqrstuvwxyz" : Str) = M3.letters := by decide +kernel
theorem str_eq (w z : Str) : (w == z) = (tl z == tl w) := by
  by_cases e : w = z
  · rw [e]; simp
  · have h1 : (w == z) = false := beq_eq_false_iff_ne.mpr e
    have h2 : (tl z == tl w) = false := beq_eq_false_iff_ne.mpr fun q => e (ext_tl q.symm)
    rw [h1, h2]
theorem words_tl : [tl ("yard" : Str), tl ("places" : Str), tl ("tie" : Str), tl ("way" : Str), tl ("ring" : Str), tl ("stand" : Str), tl ("end" : Str), tl ("to" : Str), tl ("never" : Str)] = M3.words := by decide +kernel
theorem words_in (z : Str) : inV (.str z) kWords = M3.words.contains (tl z) := by
  rw [← words_tl]
  simp only [inV, kWords, List.any_cons, List.any_nil, eqV, str_eq, List.contains_cons, List.contains_nil]
/-! ### promises -/
def spIsName : Sp := fun vs H Q _ => ∃ t : Str, vs = [.str t] ∧ t.length ≤ 1000 ∧ ∀ H', Same H H' → Q (.bl (M3.isName (tl t))) H'
def spSigns : Sp := fun vs H Q _ => ∃ (t S : Str) (a : Nat), vs = [.str t, .int a, .str S] ∧ a ≤ t.length ∧ t.length ≤ 1000 ∧ Q (.int (M3.past (tl S) (tl t) a : Nat)) H
def spSpaces : Sp := fun vs H Q _ => ∃ (t : Str) (a : Nat), vs = [.str t, .int a] ∧ a ≤ t.length ∧ t.length ≤ 1000 ∧ Q (.int (M3.past [32] (tl t) a : Nat)) H
/-- what is raised: an error of the class at C, its column c -/
def Raised (C : Addr) (c : Nat) (H : Hp) (E : XK) : Prop := ∀ (d : Addr) (H' : Hp), Same H H' → H d = none → H' d = some (.xd [("column", .int (c : Nat))]) → E (.ref C) (some d) H'
def spGap (C : Addr) : Sp := fun vs H Q E => ∃ (t : Str) (a : Nat), vs = [.str t, .int a] ∧ a ≤ t.length ∧ t.length ≤ 1000 ∧
  (∀ e, M3.pastGap (tl t) a = .ok e → Q (.int (e : Nat)) H) ∧ (∀ c, M3.pastGap (tl t) a = .error c → Raised C c H E)
def spEnd (C : Addr) : Sp := fun vs H Q E => ∃ (t : Str) (a : Nat), vs = [.str t, .int a] ∧ a ≤ t.length ∧ t.length ≤ 1000 ∧
  (M3.checkEnd (tl t) a = .ok () → Q .non H) ∧ (∀ c, M3.checkEnd (tl t) a = .error c → Raised C c H E)
def spRName (C : Addr) : Sp := fun vs H Q E => ∃ (t : Str) (a : Nat), vs = [.str t, .int a] ∧ a ≤ t.length ∧ t.length ≤ 1000 ∧
  (∀ l e, M3.readName (tl t) a = .ok (l, e) → ∀ p H', Same H H' → H' p = some (.tup [.str (mk l), .int (e : Nat)]) → Q (.ref p) H') ∧ (∀ c, M3.readName (tl t) a = .error c → ∀ H', Same H H' → Raised C c H' E)
def spWord (K : PySem.W.Frag) (C : Addr) : Sp := fun vs H Q E => ∃ (t : Str) (a : Nat) (b : Addr), vs = [.str t, .int a, .ref b] ∧ SqT K H b [.str "to", .str "never"] ∧ a ≤ t.length ∧ t.length ≤ 1000 ∧
  (∀ l e, M3.readWord M3.pwords (tl t) a = .ok (l, e) → ∀ p H', Same H H' → H' p = some (.tup [.str (mk l), .int (e : Nat)]) → Q (.ref p) H') ∧ (∀ c, M3.readWord M3.pwords (tl t) a = .error c → ∀ H', Same H H' → Raised C c H' E)
section
variable {P : Program} {w : World} {K : PySem.W.Frag} {mg : Str → Option Value} {base : Heap} {C fI fName fSigns fSpaces fGap fEnd fWord fRName fPromise : Addr}
theorem scInit : FnScope ["self", "column"] ["self", "column"] (defScope sInit) := ⟨rfl, rfl, rfl, by decide +kernel, rfl, by decide +kernel, by decide +kernel⟩
theorem ok_init {fd : FuncData} (F : Fun K "__init__" "BadText.__init__" sInit fI fd) (T : T3 K mg C fI fName fSigns fSpaces fGap fEnd fWord fRName fPromise) : FnOk P w K mg base CX0 1 fI fd ["self", "column"] (spX1 C "column") := by
  refine F.ok scInit (fun vs H Q E h => ?_) (fun cdv A outer s H vs Q E hr h => ?_)
  · obtain ⟨a, v, rfl, _⟩ := h
    rfl
  · obtain ⟨a, v, rfl, ha, k⟩ := h
    refine ⟨_, pss_one (ps_ost (pv 0) (pv 1)), ?_⟩
    exact ⟨_, rfl, _, rfl, a, C, rfl, T.xc.o, T.nC, .inl ⟨ha, fun dx n ne => k dx n ne⟩⟩
theorem scIsName : FnScope ["value", "sign"] ["value"] (defScope sIsName) := ⟨rfl, rfl, rfl, by decide +kernel, rfl, by decide +kernel, by decide +kernel⟩
theorem ok_isName {fd : FuncData} (F : Fun K "is_name" "is_name" sIsName fName fd) (T : T3 K mg C fI fName fSigns fSpaces fGap fEnd fWord fRName fPromise) : FnOk P w K mg base CX0 1 fName fd ["value"] spIsName := by
  obtain ⟨tL, gL⟩ := T.gLet
  obtain ⟨tR, gR⟩ := T.gRun
  obtain ⟨tM, gM⟩ := T.gMost
  obtain ⟨aW, gW, qW⟩ := T.gWords
  refine F.ok scIsName (fun vs H Q E h => ?_) (fun cdv A outer s H vs Q E hr h => ?_)
  · obtain ⟨t, rfl, _⟩ := h
    rfl
  · obtain ⟨t, rfl, ht, k⟩ := h
    refine ⟨_, pss_cons (ps_if (PW.pt (pw_or (pt_not (pt_val (pe_callB call_isi (by rfl) T.isi (by decide +kernel) (pa_cons (pv 0) (pa_cons (pbT (n := "str") T.str (by decide +kernel)) pa_nil)))))
        (pw_or1 (pt_not (pt_chain op_le op_le pe_int (pe_callB call_len_str (by rfl) T.len PySem.boot_len (pa_cons (pv 0) pa_nil)) (pgI gM)))))) (pss_one (ps_ret pe_bl)) pss_nil)
      (pss_cons (ps_if (PW.pt (pw_or (pt_cmpR op_notIn_sign (pe_ix ix_str (pv 0) pe_int (fun _ _ => rfl)) (pgS gL) rfl) (pw_or1 (pt_cmpR op_in_seq (pv 0) (pgR gW) (by rfl))))) (pss_one (ps_ret pe_bl)) pss_nil)
      (pss_one (ps_ret (pe_callB (cr_all rfl) (by rfl) T.all (by decide +kernel) (pa_cons (pe_lc (own := [("sign", 1)]) (g := gName 1) (tt := tYes) rfl scIsName.nd (pi_str (pv 0)) (blkOk_by (N := ["value", "sign"]) (sc := defScope sIsName) (by decide +kernel))
        (fun _ _ _ _ _ => pg_name (i := 1) scIsName.nd rfl (Or.inl rfl)) (fun _ _ _ _ _ => pts_nil) (fun _ _ _ _ _ => pe_cmpR op_in_sign (pv 1) (pgS gR) rfl)) pa_nil))))), ?_⟩
    have hz := small_line ht
    refine ⟨_, rfl, _, _, _, _, true, rfl, ClsV.ty _, .base (TyOf.str _), kit_ty (by decide +kernel), _, rfl, ?_⟩
    refine iteF ?_
    refine ⟨_, rfl, _, rfl, hz, _, _, rfl, rfl, _, rfl, ?_⟩
    have e0 : t.length = (tl t).length := len_tl t
    refine ifT (fun h1 => ?_) (fun h1 => ?_)
    · have h1' : (1 : Int) ≤ (t.length : Int) := of_decide_eq_true h1
      refine ⟨_, _, rfl, rfl, _, rfl, ?_⟩
      refine ifT (fun h2 => ?_) (fun h2 => ?_)
      · have h2' : ¬ (t.length : Int) ≤ 12 := by simpa using h2
        have e : M3.isName (tl t) = false := by
          unfold M3.isName
          rw [show decide ((tl t).length ≤ 12) = false from decide_eq_false (by omega)]
          simp
        have := k H (Same.refl H)
        rw [e] at this
        exact this
      · have h2' : (t.length : Int) ≤ 12 := by simpa using h2
        have hne : tl t ≠ [] := fun z => by rw [z] at e0; simp at e0; omega
        obtain ⟨c, r, hcr⟩ := List.exists_cons_of_ne_nil hne
        have h0 : (tl t)[0]? = some c := by rw [hcr]; rfl
        refine ⟨_, rfl, t, 0, c, rfl, rfl, hz, atI_nat h0, c, _, rfl, rfl, _, rfl, ?_⟩
        have hL : c ∈ ("abcdefghijklmnopqrstuvwxyz" : Str).cps.toList ↔ c ∈ M3.letters := by rw [← let_tl]
        have hhd : (tl t).headD 0 = c := by rw [hcr]; rfl
        refine ifT (fun h3 => ?_) (fun h3 => ?_)
        · have h3' : ¬ c ∈ M3.letters := by simpa [hL] using h3
          have e : M3.isName (tl t) = false := by
            unfold M3.isName
            rw [hhd, show M3.letters.contains c = false by simpa using h3']
            simp
          have := k H (Same.refl H)
          rw [e] at this
          exact this
        · have h3' : c ∈ M3.letters := by simpa [hL] using h3
          refine ⟨_, rfl, aW, kWords, rfl, .inr (qW H), rfl, by decide, _, rfl, ?_⟩
          refine ifT (fun h4 => ?_) (fun h4 => ?_)
          · have h4' : M3.words.contains (tl t) = true := by rw [← words_in]; exact h4
            have e : M3.isName (tl t) = false := by
              unfold M3.isName
              rw [h4']
              simp
            have := k H (Same.refl H)
            rw [e] at this
            exact this
          · have h4' : M3.words.contains (tl t) = false := by rw [← words_in]; exact h4
            refine ⟨_, rfl, t, rfl, fun D hD => ?_⟩
            refine lcp_str (f := fun c => V.bl (M3.runS.contains c)) hD (by have := len_cps t; rw [Array.length_toList] at this; omega) (fun i d H2 R hd s2 hR => ?_) ?_
            · refine ⟨rfl, _, rfl, d, _, rfl, rfl, ?_⟩
              have : decide (d ∈ ("abcdefghijklmnopqrstuvwxyz_0123456789" : Str).cps.toList) = M3.runS.contains d := by
                rw [show ("abcdefghijklmnopqrstuvwxyz_0123456789" : Str).cps.toList = M3.runS from runS_tl]
                exact (List.contains_eq_mem d M3.runS).symm
              rw [this]
              exact hR
            · refine ⟨D, (tl t).map fun c => M3.runS.contains c, rfl, ?_, ?_⟩
              · rw [List.map_map]
                exact SqL.of upd_same
              · have e : M3.isName (tl t) = ((tl t).map fun c => M3.runS.contains c).all id := by
                  unfold M3.isName
                  rw [hhd, h4', show M3.letters.contains c = true by simpa using h3', decide_eq_true (show 1 ≤ (tl t).length by omega), decide_eq_true (show (tl t).length ≤ 12 by omega), List.all_map]
                  simp
                rw [← e]
                exact k _ (Same.new hD)
    · have h1' : ¬ (1 : Int) ≤ (t.length : Int) := of_decide_eq_false h1
      have e : M3.isName (tl t) = false := by
        unfold M3.isName
        rw [show decide (1 ≤ (tl t).length) = false from decide_eq_false (by omega)]
        simp
      have := k H (Same.refl H)
      rw [e] at this
      exact ⟨_, rfl, iteT this⟩
end
end Y
set_option Elab.async false
set_option linter.all false
set_option maxRecDepth 100000
set_option maxHeartbeats 4000000
namespace Y
open PySem L2
abbrev sPen : Stmt := top 19
abbrev sDraw : Stmt := top 20
abbrev sPick : Stmt := top 21
structure TxP (K : PySem.W.Frag) (mg : Str → Option Value) (fDraw : Addr) : Prop where
  int : mg "int" = none
  list : mg "list" = none
  len : mg "len" = none
  gDraw : mg "_law_draw" = some (.ref fDraw)
section
variable {P : Program} {w : World} {K : PySem.W.Frag} {mg : Str → Option Value} {base : Heap}
theorem scPen : FnScope ["_law_script", "_law_fold", "_law_cell"] ["_law_script"] (defScope sPen) := ⟨rfl, rfl, rfl, by decide +kernel, rfl, by decide +kernel, by decide +kernel⟩
theorem ok_pen {f fDraw : Addr} {fd : FuncData} (F : Fun K "_law_pen" "_law_pen" sPen f fd) (T : TxP K mg fDraw) : FnOk P w K mg base CX0 1 f fd ["_law_script"] (spPen K) := by
  refine F.ok scPen (fun vs H Q E h => ?_) (fun cdv A outer s H vs Q E hr h => ?_)
  · obtain ⟨a, ns, rfl, _⟩ := h
    rfl
  · obtain ⟨a, ns, rfl, hS, hlen, k⟩ := h
    refine ⟨_, pss_cons (ps_set (i := 1) scPen.nd rfl (Or.inl rfl) pe_int)
      (pss_cons (ps_for PassesOwn.never rfl (pi_list (pv 0)) (pg_name (i := 2) scPen.nd rfl (Or.inl rfl))
        (pss_one (ps_set (i := 1) scPen.nd rfl (Or.inl rfl) (pe_op op_mod (pe_callTy call_int1 (by rfl) T.int (by decide +kernel) (pa_cons (pe_op op_add (pe_op op_mul (pv 1) pe_int) (pv 2)) pa_nil)) pe_int))))
      (pss_one (ps_ret (pe_disp (pps_cons pe_str (pe_callTy call_list_of (by rfl) T.list (by decide +kernel) (pa_cons (pv 0) pa_nil)) (pps_cons pe_str pe_int (pps_cons pe_str pe_int (pps_cons pe_str pe_int (pps_cons pe_str (pv 1) pps_nil))))) (by rfl) (by rfl) (fun z => by cases z) (by decide))))), ?_⟩
    refine ⟨_, rfl, a, rfl, ⟨_, hS⟩, for_list (K := K) (a := a) (xs := ns.map V.int) (fun i σ H2 => ∃ (f : Int) (v : Option V), σ = [some (.ref a), some (.int f), v] ∧ H2 = H ∧ 0 ≤ f ∧ f < 1000000007)
      ⟨0, none, rfl, rfl, by decide, by decide⟩ (fun i σ H2 _ ⟨_, _, _, e, _⟩ => by rw [e]; exact hS) ?_ ?_⟩
    · rintro i y σ H2 hi ⟨f, v, rfl, rfl, h0, h1⟩
      obtain ⟨z, rfl⟩ : ∃ z, y = V.int z := by
        rw [List.getElem?_map] at hi
        cases e : ns[i]? with
        | none =>
          rw [e] at hi
          cases hi
        | some z =>
          rw [e] at hi
          exact ⟨z, (Option.some.inj hi).symm⟩
      refine ⟨_, rfl, _, _, rfl, rfl, .inl ⟨by omega, by omega⟩, _, rfl, _, _, rfl, rfl, .inl ⟨_, rfl, _, _, rfl, rfl, (by show (0 : Int) < 1000000007; decide), ?_⟩⟩
      exact ⟨_, _, rfl, rfl, Int.emod_nonneg _ (by decide), Int.emod_lt_of_pos _ (by decide)⟩
    · rintro σ H2 ⟨f, v, rfl, rfl, h0, h1⟩
      intro p hp
      refine ⟨_, rfl, a, _, rfl, .inl ((Same.new hp).seq hS), fun l hl => ?_⟩
      have hpl : p ≠ l := fun e => by rw [← e, upd_same] at hl; cases hl
      have hl0 : H2 l = none := by rw [upd_ne (Ne.symm hpl)] at hl; exact hl
      refine ⟨_, rfl, (by rw [upd_ne hpl]; exact upd_same), [(Sum.inr "cells", .ref l), (Sum.inr "at", .int 0), (Sum.inr "digits", .int 0), (Sum.inr "count", .int 0), (Sum.inr "fold", .int f)], rfl, (by show 5 ≤ 15; decide), ?_⟩
      refine k p _ ⟨⟨l, ns, 0, 0, 0, f, ?_, ?_, hlen, by decide, by decide, by decide, by decide, h0, by omega⟩⟩ ?_ hp
      · rw [upd_same]
        exact congrArg (fun z => some (HO.dK z)) pen_merge
      · rw [upd_ne (Ne.symm hpl)]; exact upd_same
      · intro b o e
        rw [upd_ne (ne_of_none e hp), upd_ne (ne_of_none e hl0), upd_ne (ne_of_none e hp)]
        exact e
theorem scDraw : FnScope ["_law_pen_here", "_law_many", "_law_cell", "_law_digit", "_law_blend"] ["_law_pen_here", "_law_many"] (defScope sDraw) := ⟨rfl, rfl, rfl, by decide +kernel, rfl, by decide +kernel, by decide +kernel⟩
theorem ok_draw {f fDraw : Addr} {fd : FuncData} (F : Fun K "_law_draw" "_law_draw" sDraw f fd) (T : TxP K mg fDraw) : FnOk P w K mg base CX0 1 f fd ["_law_pen_here", "_law_many"] spDraw := by
  refine F.ok scDraw (fun vs H Q E h => ?_) (fun cdv A outer s H vs Q E hr h => ?_)
  · obtain ⟨p, m, b, rfl, _⟩ := h
    rfl
  · obtain ⟨p, m, b, rfl, hP, hm0, hm1, k⟩ := h
    have hu := hu_of hr
    obtain ⟨l, ns, a, g, c, f, hp, hl, hlen, ha, hg, hc, hcb, hf0, hf1⟩ := hP.ex
    refine ⟨_, pss_cons (ps_dput hu (pv 0) pe_str (pe_op op_add (pe_dget hu (pv 0) pe_str (fun _ _ => rfl)) pe_int) rfl)
      (C8.pss_cut (ps_if (PW.pt (pw_and (pt_cmpR op_eq (pe_dget hu (pv 0) pe_str (fun _ _ => rfl)) pe_int (nomark _)) (pw_and1 (pt_cmpR op_lt (pe_dget hu (pv 0) pe_str (fun _ _ => rfl)) (pe_callB call_len_seq (by rfl) T.len PySem.boot_len (pa_cons (pe_dget hu (pv 0) pe_str (fun _ _ => rfl)) pa_nil)) (nomark _)))))
        (pss_cons (ps_set (i := 2) scDraw.nd rfl (Or.inl rfl) (pe_ix ix_list (pe_dget hu (pv 0) pe_str (fun _ _ => rfl)) (pe_dget hu (pv 0) pe_str (fun _ _ => rfl)) (fun _ _ => rfl)))
        (pss_cons (ps_dput hu (pv 0) pe_str (pe_op op_add (pe_dget hu (pv 0) pe_str (fun _ _ => rfl)) pe_int) rfl)
        (pss_one (ps_if (pt_cmpR op_ge (pv 2) (pe_op op_pow pe_int pe_int) (nomark _))
          (pss_one (ps_dput hu (pv 0) pe_str (pe_op op_sub (pv 2) (pe_op op_pow pe_int pe_int)) rfl))
          (pss_one (ps_dput hu (pv 0) pe_str (pe_op op_mod (pe_callTy call_int1 (by rfl) T.int (by decide +kernel) (pa_cons (pe_op op_add (pe_op op_mul (pe_dget hu (pv 0) pe_str (fun _ _ => rfl)) pe_int) (pv 2)) pa_nil)) pe_int) rfl))))))
        pss_nil)
      (pss_cons (ps_if (pt_cmpR op_gt (pe_dget hu (pv 0) pe_str (fun _ _ => rfl)) pe_int (nomark _))
        (pss_cons (ps_set (i := 3) scDraw.nd rfl (Or.inl rfl) (pe_op op_mod (pe_callTy call_int1 (by rfl) T.int (by decide +kernel) (pa_cons (pe_dget hu (pv 0) pe_str (fun _ _ => rfl)) pa_nil)) (pv 1)))
        (pss_cons (ps_dput hu (pv 0) pe_str (pe_op op_fdivW (pe_dget hu (pv 0) pe_str (fun _ _ => rfl)) (pv 1)) rfl)
        (pss_one (ps_ret (pv 3)))))
        pss_nil)
      (pss_cons (ps_set (i := 4) scDraw.nd rfl (Or.inl rfl) (pe_op op_add (pe_op op_add (pe_dget hu (pv 0) pe_str (fun _ _ => rfl)) (pe_op op_mul (pe_dget hu (pv 0) pe_str (fun _ _ => rfl)) pe_int)) pe_int))
      (pss_one (ps_ret (pe_op op_mod (pe_op op_fdiv (pe_callTy call_int1 (by rfl) T.int (by decide +kernel) (pa_cons (pe_op op_mod (pe_op op_pow (pv 4) pe_int) pe_int) pa_nil)) pe_int) (pv 1))))))), ?_⟩
    have hlp : l ≠ p := ne_of hl hp (by intro z; cases z)
    have e1 : ∀ {a' g' c' f' : Int}, (upd H p (.dK (penD l a' g' c' f'))) p = some (.dK (penD l a' g' c' f')) := upd_same
    have mk : ∀ {a' g' c' f' : Int}, 0 ≤ a' → 0 ≤ g' → 0 ≤ c' → c' + (b : Int) ≤ 2 ^ 40 → 0 ≤ f' → f' < 2147483587 → Pen (upd H p (.dK (penD l a' g' c' f'))) p b := fun h2 h3 h4 h5 h6 h7 =>
      ⟨_, ns, _, _, _, _, upd_same, by rw [upd_ne hlp]; exact hl, hlen, h2, h3, h4, h5, h6, h7⟩
    refine ⟨_, rfl, _, _, rfl, get_count hp, _, _, rfl, rfl, _, rfl, _, _, rfl, dput_count hp, ?_⟩
    refine ⟨fun σ' H' => ∃ (a' g' f' : Int) (v : Option V), σ' = [some (.ref p), some (.int m), v, none, none] ∧ H' = upd H p (.dK (penD l a' g' (c + 1) f')) ∧ 0 ≤ a' ∧ 0 ≤ g' ∧ 0 ≤ f' ∧ f' < 2147483587, ?_, ?_⟩
    · refine ⟨_, rfl, _, _, rfl, get_digits e1, rfl, _, rfl, ?_⟩
      refine ite2 (fun hd => ?_) (fun hd => ?_)
      · refine ⟨_, rfl, _, _, rfl, get_at e1, _, rfl, _, _, rfl, get_cells e1, l, _, rfl, .inl (.inl (.inl (by rw [upd_ne hlp]; exact hl))), _, _, rfl, rfl, _, rfl, ?_⟩
        refine ite2 (fun hd2 => ?_) (fun hd2 => ?_)
        · have hd3 : a < ((ns.map V.int).length : Int) := of_decide_eq_true hd2
          obtain ⟨y, hy, hy2⟩ := there_int ha hd3
          obtain ⟨z, hz, rfl⟩ := ints_at hy
          refine ⟨_, rfl, _, _, rfl, get_cells e1, _, rfl, _, _, rfl, get_at e1, l, _, a, _, rfl, rfl, .inl (.inl (by rw [upd_ne hlp]; exact hl)), hy2, ?_⟩
          refine ⟨_, rfl, _, _, rfl, get_at e1, _, _, rfl, rfl, _, rfl, _, _, rfl, dput_at, ?_⟩
          refine ⟨_, rfl, _, _, rfl, rfl, ⟨by decide, by decide, by decide⟩, _, _, rfl, rfl, _, rfl, ?_⟩
          refine ite2 (fun hd4 => ?_) (fun hd4 => ?_)
          · have hd5 : (10 : Int) ^ (18 : Int).toNat ≤ z := of_decide_eq_true hd4
            refine ⟨_, rfl, _, _, rfl, rfl, ⟨by decide, by decide, by decide⟩, _, _, rfl, rfl, _, rfl, _, _, rfl, dput_digits, ?_⟩
            exact ⟨_, _, _, _, rfl, rfl, by omega, by omega, hf0, hf1⟩
          · refine ⟨_, rfl, _, _, rfl, get_fold e1, _, _, rfl, rfl, .inl ⟨by omega, by omega⟩, _, rfl, _, _, rfl, rfl, .inl ⟨_, rfl, _, _, rfl, rfl, (by show (0 : Int) < 2147483587; decide), _, rfl, _, _, rfl, dput_fold, ?_⟩⟩
            exact ⟨_, _, _, _, rfl, rfl, by omega, hg, Int.emod_nonneg _ (by decide), Int.emod_lt_of_pos _ (by decide)⟩
        · exact ⟨_, _, _, _, rfl, rfl, ha, hg, hf0, hf1⟩
      · exact ⟨_, _, _, _, rfl, rfl, ha, hg, hf0, hf1⟩
    · rintro σ' H' ⟨a', g', f', v, rfl, rfl, ha', hg', hf0', hf1'⟩
      refine ⟨_, rfl, _, _, rfl, get_digits e1, _, _, rfl, rfl, _, rfl, ?_⟩
      refine ite2 (fun hd => ?_) (fun hd => ?_)
      · refine ⟨_, rfl, _, _, rfl, get_digits e1, .inl ⟨_, rfl, _, rfl, _, _, rfl, rfl, hm0, ?_⟩⟩
        refine ⟨_, rfl, _, _, rfl, get_digits e1, _, rfl, _, _, rfl, rfl, wide_div hm0 (b := 41) (by omega) (by decide) (by decide), _, rfl, _, _, rfl, dput_digits, ?_⟩
        refine ⟨_, rfl, ?_⟩
        exact k _ _ (Int.emod_nonneg _ (by omega)) (Int.emod_lt_of_pos _ hm0) (mk ha' (Int.ediv_nonneg hg' (by omega)) (by omega) (by omega) hf0' hf1') But.upd
      · refine ⟨_, rfl, _, _, rfl, get_fold e1, _, rfl, _, _, rfl, get_count e1, _, _, rfl, rfl, .inl ⟨by omega, by omega⟩, _, _, rfl, rfl, _, _, rfl, rfl, ?_⟩
        refine ⟨_, rfl, _, _, rfl, rfl, ⟨by decide, by decide, by omega⟩, _, _, rfl, rfl, (by show (0 : Int) < 2305843009213693951; decide), .inl ⟨_, rfl, _, _, rfl, rfl, ⟨by decide, by decide⟩, _, rfl, _, _, rfl, rfl, hm0, ?_⟩⟩
        exact k _ _ (Int.emod_nonneg _ (by omega)) (Int.emod_lt_of_pos _ hm0) (mk ha' hg' (by omega) (by omega) hf0' hf1') But.upd
theorem scPick : FnScope ["_law_pen_here", "_law_some"] ["_law_pen_here", "_law_some"] (defScope sPick) := ⟨rfl, rfl, rfl, by decide +kernel, rfl, by decide +kernel, by decide +kernel⟩
theorem ok_pick {f fDraw : Addr} {fd fdDraw : FuncData} (F : Fun K "_law_pick" "_law_pick" sPick f fd) (T : TxP K mg fDraw) (FD : Fun K "_law_draw" "_law_draw" sDraw fDraw fdDraw) (bD : Binds K fdDraw ["_law_pen_here", "_law_many"] []) :
    FnOk P w K mg base CX0 2 f fd ["_law_pen_here", "_law_some"] (spPick K) := by
  have GD : FnOk P w K mg base CX0 1 fDraw fdDraw ["_law_pen_here", "_law_many"] spDraw := ok_draw FD T
  refine F.ok scPick (fun vs H Q E h => ?_) (fun cdv A outer s H vs Q E hr h => ?_)
  · obtain ⟨p, l, xs, b, rfl, _⟩ := h
    rfl
  · obtain ⟨p, l, xs, b, rfl, hP, hl, hne, hz, k⟩ := h
    refine ⟨_, pss_one (ps_ret (pe_ix (IxR.or ix_list ix_tup) (pv 1) (pe_call GD hr (by rfl) T.gDraw FD.kp bD .nil pass0 (pa_cons (pv 0) (pa_cons (pe_callB call_len_seq (by rfl) T.len PySem.boot_len (pa_cons (pv 1) pa_nil)) pa_nil))) (fun _ _ => rfl))), ?_⟩
    have hpos := List.length_pos_iff.mpr hne
    obtain ⟨kvs, hpd⟩ := hP.there
    refine ⟨_, rfl, _, rfl, _, rfl, l, xs, rfl, hl, p, _, b, rfl, hP, by omega, by omega, fun n H' h0 h1 hP' hB => ?_⟩
    obtain ⟨y, hy, hy2⟩ := there_int h0 h1
    rcases hl with hl | hl
    · exact .inl ⟨l, xs, n, y, rfl, rfl, hB.seq hpd hl, hy2, k y _ _ hy hP' hB⟩
    · exact .inr ⟨l, xs, n, y, rfl, rfl, hB.seqT hpd hl, hy2, k y _ _ hy hP' hB⟩
end
end Y
set_option Elab.async false
set_option linter.all false
set_option maxRecDepth 100000
set_option maxHeartbeats 4000000
namespace Y
open PySem L2 TL
theorem at_code {t : Str} {e : Nat} (h : e < t.length) : ∃ c, (tl t)[e]? = some c := ⟨_, List.getElem?_eq_getElem (by rw [← len_tl]; exact h)⟩
theorem take_slice {t : Str} {a b : Nat} (hab : a ≤ b) (hb : b ≤ t.length) : cutS t (some (a : Int)) (some (b : Int)) = mk (M3.slice (tl t) a b) := by
  refine ext_tl ?_
  show (List.take (HT.sIx t.length t.length (some (b : Int)) - HT.sIx t.length 0 (some (a : Int))) (List.drop (HT.sIx t.length 0 (some (a : Int))) t.cps.toList)) = M3.slice (tl t) a b
  rw [HT.sIx_nat, HT.sIx_nat, Nat.min_eq_left hb, Nat.min_eq_left (by omega)]
  rfl
theorem mk1e {C : Addr} {f : Str} {v v' : V} {H1 : Hp} {Q : XK} (hv : v = v') (h : ∀ (d : Addr) (H' : Hp), Same H1 H' → H1 d = none → H' d = some (.xd [(f, v')]) → Q (.ref C) (some d) H') :
    ([v] : List V).length ≤ 1000 ∧ ∀ a, H1 a = none → spX1 C f (.ref a :: ([v] ++ [])) (upd H1 a (exo a C none))
      (fun u H2 => u = .non ∧ ∃ (d : Addr) (fs : List (Str × V)), H2 a = some (exo a C (some d)) ∧ H2 d = some (exd d fs) ∧ H1 d = none ∧ Q (.ref C) (some d) (upd (del H2 a) d (.xd fs))) (fun _ _ _ => False) := by
  subst hv
  exact mk1 h
section
variable {P : Program} {w : World} {K : PySem.W.Frag} {mg : Str → Option Value} {base : Heap} {C fI fName fSigns fSpaces fGap fEnd fWord fRName fPromise : Addr}
theorem scSigns : FnScope ["text", "at", "signs", "end"] ["text", "at", "signs"] (defScope sSigns) := ⟨rfl, rfl, rfl, by decide +kernel, rfl, by decide +kernel, by decide +kernel⟩
theorem ok_signs {fd : FuncData} (F : Fun K "past_signs" "past_signs" sSigns fSigns fd) (T : T3 K mg C fI fName fSigns fSpaces fGap fEnd fWord fRName fPromise) : FnOk P w K mg base CX0 1 fSigns fd ["text", "at", "signs"] spSigns := by
  refine F.ok scSigns (fun vs H Q E h => ?_) (fun cdv A outer s H vs Q E hr h => ?_)
  · obtain ⟨t, S, a, rfl, _⟩ := h
    rfl
  · obtain ⟨t, S, a, rfl, ha, ht, k⟩ := h
    have hz := small_line ht
    refine ⟨_, pss_cons (ps_set (i := 3) scSigns.nd rfl (Or.inl rfl) (pv 1))
      (pss_cons (ps_while PassesOwn.never (PW.pt (pw_and (pt_cmpR op_lt (pv 3) (pe_callB call_len_str (by rfl) T.len PySem.boot_len (pa_cons (pv 0) pa_nil)) (nomark _)) (pw_and1 (pt_cmpR op_in_sign (pe_ix ix_str (pv 0) (pv 3) (fun _ _ => rfl)) (pv 2) rfl))))
        (pss_one (ps_aug (i := 3) scSigns.nd rfl (Or.inl rfl) pe_int ip_add)))
      (pss_one (ps_ret (pv 3)))), ?_⟩
    refine ⟨_, rfl, ?_⟩
    refine ⟨fun m σ H' => ∃ e : Nat, σ = [some (.str t), some (.int (a : Nat)), some (.str S), some (.int (e : Nat))] ∧ H' = H ∧ m = t.length - e ∧ e ≤ t.length ∧ M3.past (tl S) (tl t) e = M3.past (tl S) (tl t) a, ⟨_, a, rfl, rfl, rfl, ha, rfl⟩, ?_⟩
    rintro m σ H' ⟨e, rfl, rfl, rfl, he, hp⟩
    refine ⟨_, rfl, _, rfl, _, rfl, hz, _, _, rfl, rfl, _, rfl, ?_⟩
    have fin : M3.past (tl S) (tl t) e = e → ∃ v, [some (V.str t), some (V.int (a : Nat)), some (V.str S), some (V.int (e : Nat))][3]? = some (some v) ∧ Q v H' := fun q => ⟨_, rfl, by rw [← hp, q] at k; exact k⟩
    refine ifT (fun h1 => ?_) (fun h1 => ?_)
    · have h1' : e < t.length := by have : (e : Int) < (t.length : Int) := of_decide_eq_true h1; omega
      obtain ⟨c, hc⟩ := at_code h1'
      refine ⟨_, rfl, _, rfl, t, _, c, rfl, rfl, hz, atI_nat hc, _, rfl, c, _, rfl, rfl, _, rfl, ?_⟩
      refine ifT (fun h2 => ?_) (fun h2 => ?_)
      · have h2' : c ∈ tl S := of_decide_eq_true h2
        refine ⟨_, fun σ' H' n => n, _, rfl, _, _, rfl, rfl, ?_⟩
        exact ⟨_, by omega, e + 1, rfl, rfl, rfl, h1', by rw [← M3.past_step hc h2', hp]⟩
      · exact fin (M3.past_stop hc (of_decide_eq_false h2))
    · have h1' : ¬ e < t.length := by have : ¬ (e : Int) < (t.length : Int) := of_decide_eq_false h1; omega
      exact fin (M3.past_end (by rw [← len_tl]; omega))
theorem scSpaces : FnScope ["text", "at"] ["text", "at"] (defScope sSpaces) := ⟨rfl, rfl, rfl, by decide +kernel, rfl, by decide +kernel, by decide +kernel⟩
theorem space_tl : tl (" " : Str) = [32] := by decide +kernel
theorem ok_spaces {fd fdS : FuncData} (F : Fun K "past_spaces" "past_spaces" sSpaces fSpaces fd) (T : T3 K mg C fI fName fSigns fSpaces fGap fEnd fWord fRName fPromise) (FS : Fun K "past_signs" "past_signs" sSigns fSigns fdS) (bS : Binds K fdS ["text", "at", "signs"] []) :
    FnOk P w K mg base CX0 2 fSpaces fd ["text", "at"] spSpaces := by
  have GS : FnOk P w K mg base CX0 1 fSigns fdS ["text", "at", "signs"] spSigns := ok_signs FS T
  refine F.ok scSpaces (fun vs H Q E h => ?_) (fun cdv A outer s H vs Q E hr h => ?_)
  · obtain ⟨t, a, rfl, _⟩ := h
    rfl
  · obtain ⟨t, a, rfl, ha, ht, k⟩ := h
    refine ⟨_, pss_one (ps_ret (pe_call GS hr (by rfl) T.gSigns FS.kp bS .nil pass0 (pa_cons (pv 0) (pa_cons (pv 1) (pa_cons pe_str pa_nil))))), ?_⟩
    refine ⟨_, rfl, _, rfl, t, " ", a, rfl, ha, ht, ?_⟩
    rw [space_tl]
    exact k
theorem scGap : FnScope ["text", "at", "end"] ["text", "at"] (defScope sGap) := ⟨rfl, rfl, rfl, by decide +kernel, rfl, by decide +kernel, by decide +kernel⟩
theorem ok_gap {fd fdS fdI : FuncData} (F : Fun K "past_gap" "past_gap" sGap fGap fd) (T : T3 K mg C fI fName fSigns fSpaces fGap fEnd fWord fRName fPromise) (GS : FnOk P w K mg base CX0 2 fSpaces fdS ["text", "at"] spSpaces) (FS : Fun K "past_spaces" "past_spaces" sSpaces fSpaces fdS) (bS : Binds K fdS ["text", "at"] [])
    (GI : FnOk P w K mg base CX0 1 fI fdI ["self", "column"] (spX1 C "column")) (bI : Binds K fdI ["self", "column"] []) : FnOk P w K mg base (L2.CX P w) 3 fGap fd ["text", "at"] (spGap C) := by
  refine F.okX scGap (fun vs H Q E h => ?_) (fun cdv A outer s H vs Q E hr h => ?_)
  · obtain ⟨t, a, rfl, _⟩ := h
    rfl
  · obtain ⟨t, a, rfl, ha, ht, k1, k2⟩ := h
    refine ⟨_, pss_cons (ps_set (i := 2) scGap.nd rfl (Or.inl rfl) (pe_call GS hr (by rfl) T.gSpaces FS.kp bS .nil pass0 (pa_cons (pv 0) (pa_cons (pv 1) pa_nil))))
      (pss_cons (ps_if (pt_cmpR op_eq (pv 2) (pv 1) (nomark _)) (pss_one (ps_raise rfl (takes_of rfl rfl rfl rfl) (pmk_oex T.xc.o T.iC T.tI GI hr bI .nil pass0 (by rfl) T.gC (pa_cons (pe_op op_add (pv 1) pe_int) pa_nil)))) pss_nil)
      (pss_one (ps_ret (pv 2)))), ?_⟩
    refine ⟨_, rfl, _, rfl, t, a, rfl, ha, ht, ?_⟩
    refine ⟨_, rfl, _, rfl, rfl, _, rfl, ?_⟩
    refine ifT (fun h1 => ?_) (fun h1 => ?_)
    · have h1' : M3.past [32] (tl t) a = a := by have := V.int.inj (of_decide_eq_true h1); omega
      refine ⟨_, rfl, _, _, rfl, rfl, ?_⟩
      exact mk1 (k2 (a + 1) (by unfold M3.pastGap; rw [if_pos h1']))
    · have h1' : M3.past [32] (tl t) a ≠ a := fun z => of_decide_eq_false h1 (by rw [z])
      exact ⟨_, rfl, k1 _ (by unfold M3.pastGap; rw [if_neg h1'])⟩
theorem scEnd : FnScope ["text", "at", "end"] ["text", "at"] (defScope sEnd) := ⟨rfl, rfl, rfl, by decide +kernel, rfl, by decide +kernel, by decide +kernel⟩
theorem ok_end {fd fdS fdI : FuncData} (F : Fun K "check_end" "check_end" sEnd fEnd fd) (T : T3 K mg C fI fName fSigns fSpaces fGap fEnd fWord fRName fPromise) (GS : FnOk P w K mg base CX0 2 fSpaces fdS ["text", "at"] spSpaces) (FS : Fun K "past_spaces" "past_spaces" sSpaces fSpaces fdS) (bS : Binds K fdS ["text", "at"] [])
    (GI : FnOk P w K mg base CX0 1 fI fdI ["self", "column"] (spX1 C "column")) (bI : Binds K fdI ["self", "column"] []) : FnOk P w K mg base (L2.CX P w) 3 fEnd fd ["text", "at"] (spEnd C) := by
  refine F.okX scEnd (fun vs H Q E h => ?_) (fun cdv A outer s H vs Q E hr h => ?_)
  · obtain ⟨t, a, rfl, _⟩ := h
    rfl
  · obtain ⟨t, a, rfl, ha, ht, k1, k2⟩ := h
    have hz := small_line ht
    refine ⟨_, pss_cons (ps_set (i := 2) scEnd.nd rfl (Or.inl rfl) (pe_call GS hr (by rfl) T.gSpaces FS.kp bS .nil pass0 (pa_cons (pv 0) (pa_cons (pv 1) pa_nil))))
      (pss_one (ps_if (pt_cmpR op_lt (pv 2) (pe_callB call_len_str (by rfl) T.len PySem.boot_len (pa_cons (pv 0) pa_nil)) (nomark _)) (pss_one (ps_raise rfl (takes_of rfl rfl rfl rfl) (pmk_oex T.xc.o T.iC T.tI GI hr bI .nil pass0 (by rfl) T.gC (pa_cons (pe_op op_add (pv 2) pe_int) pa_nil)))) pss_nil)), ?_⟩
    refine ⟨_, rfl, _, rfl, t, a, rfl, ha, ht, ?_⟩
    refine ⟨_, rfl, _, rfl, _, rfl, hz, _, _, rfl, rfl, _, rfl, ?_⟩
    refine ifT (fun h1 => ?_) (fun h1 => ?_)
    · have h1' : M3.past [32] (tl t) a < (tl t).length := by have : ((M3.past [32] (tl t) a : Nat) : Int) < (t.length : Int) := of_decide_eq_true h1; rw [← len_tl]; omega
      refine ⟨_, rfl, _, _, rfl, rfl, ?_⟩
      exact mk1 (k2 (M3.past [32] (tl t) a + 1) (by unfold M3.checkEnd; rw [if_pos h1']))
    · have h1' : ¬ M3.past [32] (tl t) a < (tl t).length := by have : ¬ ((M3.past [32] (tl t) a : Nat) : Int) < (t.length : Int) := of_decide_eq_false h1; rw [← len_tl]; omega
      exact k1 (by unfold M3.checkEnd; rw [if_neg h1'])
theorem scRName : FnScope ["text", "at", "end"] ["text", "at"] (defScope sRName) := ⟨rfl, rfl, rfl, by decide +kernel, rfl, by decide +kernel, by decide +kernel⟩
theorem ok_rname {fd fdS fdN fdI : FuncData} (F : Fun K "read_name" "read_name" sRName fRName fd) (T : T3 K mg C fI fName fSigns fSpaces fGap fEnd fWord fRName fPromise) (FS : Fun K "past_signs" "past_signs" sSigns fSigns fdS) (bS : Binds K fdS ["text", "at", "signs"] [])
    (FN : Fun K "is_name" "is_name" sIsName fName fdN) (bN : Binds K fdN ["value"] []) (GI : FnOk P w K mg base CX0 1 fI fdI ["self", "column"] (spX1 C "column")) (bI : Binds K fdI ["self", "column"] []) :
    FnOk P w K mg base (L2.CX P w) 3 fRName fd ["text", "at"] (spRName C) := by
  have GS : FnOk P w K mg base CX0 1 fSigns fdS ["text", "at", "signs"] spSigns := ok_signs FS T
  have GN : FnOk P w K mg base CX0 1 fName fdN ["value"] spIsName := ok_isName FN T
  obtain ⟨tL, gL⟩ := T.gLet
  obtain ⟨tR, gR⟩ := T.gRun
  obtain ⟨tM, gM⟩ := T.gMost
  refine F.okX scRName (fun vs H Q E h => ?_) (fun cdv A outer s H vs Q E hr h => ?_)
  · obtain ⟨t, a, rfl, _⟩ := h
    rfl
  · obtain ⟨t, a, rfl, ha, ht, k1, k2⟩ := h
    have hz := small_line ht
    have hr1 : Room 1 _ := hr.mono (by decide)
    refine ⟨_, pss_cons (ps_set (i := 2) scRName.nd rfl (Or.inl rfl) (pe_call GS hr1 (by rfl) T.gSigns FS.kp bS .nil pass0 (pa_cons (pv 0) (pa_cons (pv 1) (pa_cons (pgS gR) pa_nil)))))
      (pss_cons (ps_if (pt_val (pe_call GN hr1 (by rfl) T.gName FN.kp bN .nil pass0 (pa_cons (pe_slice sl_str (pv 0) (po_some (pv 1)) (po_some (pv 2))) pa_nil)))
        (pss_one (ps_ret (pe_tup (pa_cons (pe_slice sl_str (pv 0) (po_some (pv 1)) (po_some (pv 2))) (pa_cons (pv 2) pa_nil))))) pss_nil)
      (pss_cons (ps_if (PW.pt (pw_or (pt_cmpR op_eq (pv 2) (pv 1) (nomark _)) (pw_or1 (pt_cmpR op_notIn_sign (pe_ix ix_str (pv 0) (pv 1) (fun _ _ => rfl)) (pgS gL) rfl))))
        (pss_one (ps_raise rfl (takes_of rfl rfl rfl rfl) (pmk_oex T.xc.o T.iC T.tI GI hr bI .nil pass0 (by rfl) T.gC (pa_cons (pe_op op_add (pv 1) pe_int) pa_nil)))) pss_nil)
      (pss_one (ps_raise rfl (takes_of rfl rfl rfl rfl) (pmk_oex T.xc.o T.iC T.tI GI hr bI .nil pass0 (by rfl) T.gC (pa_cons (pe_op op_add (pe_callB (call_min2 rfl) (by rfl) T.min (by decide +kernel) (pa_cons (pv 2) (pa_cons (pe_op op_add (pv 1) (pgI gM)) pa_nil))) pe_int) pa_nil)))))), ?_⟩
    refine ⟨_, rfl, _, rfl, t, _, a, rfl, ha, ht, ?_⟩
    rw [runS_tl]
    have hp := M3.past_le M3.runS (tl t) a (by rw [← len_tl]; exact ha)
    rw [← len_tl] at hp
    refine ⟨_, rfl, _, rfl, _, rfl, _, rfl, _, rfl, t, rfl, hz, ?_⟩
    rw [take_slice hp.1 hp.2]
    refine ⟨_, rfl, ?_, fun H' s' => ?_⟩
    · rw [len_tl]
      show (M3.slice (tl t) a (M3.past M3.runS (tl t) a)).length ≤ 1000
      unfold M3.slice
      rw [List.length_take, List.length_drop, ← len_tl]
      omega
    · refine ⟨_, rfl, ifT (fun h1 => ?_) (fun h1 => ?_)⟩
      · have h1' : M3.isName (M3.slice (tl t) a (M3.past M3.runS (tl t) a)) = true := h1
        refine ⟨_, rfl, _, rfl, _, rfl, _, rfl, _, rfl, t, rfl, hz, _, rfl, (by show 2 ≤ sizeLine; decide), fun p hp' => ?_⟩
        rw [take_slice hp.1 hp.2]
        exact k1 _ _ (by unfold M3.readName; rw [if_pos h1']) p _ (s'.trans (Same.new hp')) upd_same
      · have h1' : ¬ M3.isName (M3.slice (tl t) a (M3.past M3.runS (tl t) a)) = true := by rw [show M3.isName (M3.slice (tl t) a (M3.past M3.runS (tl t) a)) = false from h1]; decide
        refine ⟨_, rfl, _, rfl, rfl, _, rfl, ?_⟩
        refine ifT (fun h2 => ?_) (fun h2 => ?_)
        · have h2' : M3.past M3.runS (tl t) a = a := by have := V.int.inj (of_decide_eq_true h2); omega
          refine ⟨_, rfl, _, _, rfl, rfl, ?_⟩
          exact mk1 (k2 (a + 1) (by unfold M3.readName; rw [if_neg h1', if_pos h2']) _ s')
        · have h2' : M3.past M3.runS (tl t) a ≠ a := fun z => of_decide_eq_false h2 (by rw [z])
          obtain ⟨c, hc⟩ := at_code (t := t) (e := a) (by omega)
          refine ⟨_, rfl, _, rfl, t, _, c, rfl, rfl, hz, atI_nat hc, c, _, rfl, rfl, _, rfl, ?_⟩
          have hL : c ∈ ("abcdefghijklmnopqrstuvwxyz" : Str).cps.toList ↔ c ∈ M3.letters := by rw [← let_tl]
          have hg : (tl t).getD a 0 = c := by rw [List.getD_eq_getElem?_getD, hc]; rfl
          refine ifT (fun h3 => ?_) (fun h3 => ?_)
          · have h3' : ¬ c ∈ M3.letters := by simpa [hL] using h3
            refine ⟨_, rfl, _, _, rfl, rfl, ?_⟩
            exact mk1 (k2 (a + 1) (by unfold M3.readName; rw [if_neg h1', if_neg h2', hg, if_pos (by simpa using h3')]) _ s')
          · have h3' : c ∈ M3.letters := by simpa [hL] using h3
            refine ⟨_, rfl, _, rfl, _, _, rfl, rfl, _, _, rfl, _, _, rfl, rfl, ?_⟩
            have ee : (if ((a : Int) + 12) < ((M3.past M3.runS (tl t) a : Nat) : Int) then ((a : Int) + 12) else ((M3.past M3.runS (tl t) a : Nat) : Int)) + 1 = ((min (M3.past M3.runS (tl t) a) (a + 12) + 1 : Nat) : Int) := by
              split <;> omega
            exact mk1e (congrArg V.int ee) (k2 _ (by unfold M3.readName; rw [if_neg h1', if_neg h2', hg, if_neg (by simpa using h3')]) _ s')
theorem starts (z x : Str) : Txt.startswith z x = (tl x == (tl z).take (tl x).length) := by
  have e : Txt.startswith z x = (decide (0 + x.length ≤ z.length) && Builtin.Str.subAt z x 0) := rfl
  rw [e, PySem.StrLaws.subAt_eq, List.drop_zero, len_tl x, len_tl z]
  by_cases q : (tl z).take (tl x).length = tl x
  · have hl := congrArg List.length q
    rw [List.length_take] at hl
    rw [q, decide_eq_true (by omega)]
    simp
  · have h1 : ((tl z).take (tl x).length == tl x) = false := beq_eq_false_iff_ne.mpr q
    have h2 : (tl x == (tl z).take (tl x).length) = false := beq_eq_false_iff_ne.mpr (Ne.symm q)
    rw [h1, h2, Bool.and_false]
theorem pw_tl : [tl ("to" : Str), tl ("never" : Str)] = M3.pwords := by decide +kernel
theorem scWord : FnScope ["text", "at", "words", "end", "word"] ["text", "at", "words"] (defScope sWord) := ⟨rfl, rfl, rfl, by decide +kernel, rfl, by decide +kernel, by decide +kernel⟩
theorem ok_word {fd fdI : FuncData} (F : Fun K "read_word" "read_word" sWord fWord fd) (T : T3 K mg C fI fName fSigns fSpaces fGap fEnd fWord fRName fPromise)
    (GI : FnOk P w K mg base CX0 1 fI fdI ["self", "column"] (spX1 C "column")) (bI : Binds K fdI ["self", "column"] []) : FnOk P w K mg base (L2.CX P w) 3 fWord fd ["text", "at", "words"] (spWord K C) := by
  refine F.okX scWord (fun vs H Q E h => ?_) (fun cdv A outer s H vs Q E hr h => ?_)
  · obtain ⟨t, a, b, rfl, _⟩ := h
    rfl
  · obtain ⟨t, a, b, rfl, hb, ha, ht, k1, k2⟩ := h
    have hz := small_line ht
    refine ⟨_, pss_cons (ps_set (i := 3) scWord.nd rfl (Or.inr rfl) (pv 1))
      (C8.pss_cut (ps_while (passes_of rfl) (PW.pt (pw_and (pt_cmpR op_lt (pv 3) (pe_callB call_len_str (by rfl) T.len PySem.boot_len (pa_cons (pv 0) pa_nil)) (nomark _)) (pw_and1 (pt_val (pe_callB (cr_any rfl) (by rfl) T.any (by decide +kernel) (pa_cons
          (pe_lc (own := [("word", 4)]) (g := gName 4) (tt := tYes) rfl scWord.nd (pi_tup (pv 2)) (blkOk_by (N := ["text", "at", "words", "end", "word"]) (sc := defScope sWord) (by decide +kernel))
            (fun _ _ _ _ _ => pg_name (i := 4) scWord.nd rfl (Or.inl rfl)) (fun _ _ _ _ _ => pts_nil)
            (fun _ _ _ _ _ => pe_m1 PySem.F.slot_str_startswith PySem.F.type_str_startswith mt_startswith (pv 4) (pe_slice sl_str (pv 0) (po_some (pv 1)) (po_some (pe_op op_add (pv 3) pe_int))))) pa_nil))))))
        (pss_one (ps_aug (i := 3) scWord.nd rfl (Or.inr rfl) pe_int ip_add)))
      (pss_cons (ps_if (pt_cmpR op_notIn_seq (pe_slice sl_str (pv 0) (po_some (pv 1)) (po_some (pv 3))) (pv 2) (by rfl)) (pss_one (ps_raise rfl (takes_of rfl rfl rfl rfl) (pmk_oex T.xc.o T.iC T.tI GI hr bI .nil pass0 (by rfl) T.gC (pa_cons (pe_op op_add (pv 3) pe_int) pa_nil)))) pss_nil)
      (pss_one (ps_ret (pe_tup (pa_cons (pe_slice sl_str (pv 0) (po_some (pv 1)) (po_some (pv 3))) (pa_cons (pv 3) pa_nil))))))), ?_⟩
    have e0 := len_tl t
    have hw0 := M3.wlen_le M3.pwords ((tl t).drop a) (tl t).length 0 (Nat.zero_le _)
    rw [List.length_drop, ← e0] at hw0
    refine ⟨_, rfl, ?_⟩
    refine ⟨fun σ H' => ∃ k : Nat, σ = [some (.str t), some (.int (a : Nat)), some (.ref b), some (.int ((a + k : Nat) : Nat)), none] ∧ Same H H' ∧ a + k ≤ t.length ∧ M3.wlen M3.pwords ((tl t).drop a) (tl t).length 0 = k, ?_, ?_⟩
    · refine ⟨fun m σ H' => ∃ k : Nat, σ = [some (.str t), some (.int (a : Nat)), some (.ref b), some (.int ((a + k : Nat) : Nat)), none] ∧ Same H H' ∧ m = t.length - (a + k) ∧ a + k ≤ t.length ∧
        M3.wlen M3.pwords ((tl t).drop a) (t.length - k) k = M3.wlen M3.pwords ((tl t).drop a) (tl t).length 0, ⟨_, 0, rfl, Same.refl H, rfl, ha, by rw [← e0]; rfl⟩, ?_⟩
      rintro m σ H' ⟨k, rfl, s1, rfl, hk, hp⟩
      have ld : ((tl t).drop a).length = t.length - a := by rw [List.length_drop, ← e0]
      refine ⟨_, rfl, _, rfl, _, rfl, hz, _, _, rfl, rfl, _, rfl, ?_⟩
      refine ifT (fun h1 => ?_) (fun h1 => ?_)
      · have h1' : a + k < t.length := by have : ((a + k : Nat) : Int) < (t.length : Int) := of_decide_eq_true h1; omega
        refine ⟨_, rfl, b, rfl, ⟨_, Same.seqT s1 hb⟩, fun D hD => ?_⟩
        have sl1 : cutS t (some (a : Int)) (some (((a + k : Nat) : Int) + 1)) = mk (M3.slice (tl t) a (a + k + 1)) := take_slice (a := a) (b := a + k + 1) (by omega) (by omega)
        have sle : M3.slice (tl t) a (a + k + 1) = ((tl t).drop a).take (k + 1) := by unfold M3.slice; rw [show a + k + 1 - a = k + 1 by omega]
        have hl1 : (((tl t).drop a).take (k + 1)).length = k + 1 := by rw [List.length_take, ld]; omega
        refine lcp_tup (f := fun x => match x with | .str z => .bl (Txt.startswith z (mk (M3.slice (tl t) a (a + k + 1)))) | _ => .non) (xs := [.str "to", .str "never"]) hD (by decide) (Same.seqT s1 hb) (fun H2 s2 => Same.seqT (s1.trans s2) hb) (fun i x H2 R hx s2 hR => ?_) ?_
        · obtain ⟨z, rfl⟩ : ∃ z, x = V.str z := by
            match i, hx with
            | 0, hx => exact ⟨_, (Option.some.inj hx).symm⟩
            | 1, hx => exact ⟨_, (Option.some.inj hx).symm⟩
            | i + 2, hx => simp at hx
          refine ⟨rfl, _, rfl, ⟨_, rfl⟩, _, rfl, _, rfl, _, rfl, _, rfl, _, _, rfl, rfl, _, rfl, t, rfl, hz, _, _, rfl, rfl, ?_⟩
          rw [sl1]
          exact hR
        · refine ⟨D, [Txt.startswith "to" (mk (M3.slice (tl t) a (a + k + 1))), Txt.startswith "never" (mk (M3.slice (tl t) a (a + k + 1)))], rfl, SqL.of upd_same, _, rfl, ?_⟩
          have hC : ([Txt.startswith "to" (mk (M3.slice (tl t) a (a + k + 1))), Txt.startswith "never" (mk (M3.slice (tl t) a (a + k + 1)))] : List Bool).any id = M3.pwords.any (fun w => (((tl t).drop a).take (k + 1)) == w.take (k + 1)) := by
            rw [← pw_tl, starts, starts, tl_of_mk, sle, hl1]
            rfl
          rw [hC]
          have hf : t.length - k = (t.length - (k + 1)) + 1 := by omega
          refine ifT (fun h2 => ?_) (fun h2 => ?_)
          · refine ⟨_, fun σ' H' n => n, _, rfl, _, _, rfl, rfl, ?_⟩
            refine ⟨t.length - (a + (k + 1)), by omega, k + 1, rfl, s1.trans (Same.new hD), rfl, by omega, ?_⟩
            rw [hf] at hp
            rw [M3.wlen_hit (by omega) h2] at hp
            exact hp
          · refine ⟨k, rfl, s1.trans (Same.new hD), hk, ?_⟩
            rw [hf] at hp
            rw [M3.wlen_miss (fun z => by rw [h2] at z; exact Bool.noConfusion z.2)] at hp
            exact hp.symm
      · have h1' : ¬ a + k < t.length := by have : ¬ ((a + k : Nat) : Int) < (t.length : Int) := of_decide_eq_false h1; omega
        refine ⟨k, rfl, s1, hk, ?_⟩
        rw [← hp]
        cases t.length - k with
        | zero => rfl
        | succ f =>
          unfold M3.wlen
          rw [if_neg (fun z => by omega)]
    · rintro σ H' ⟨k, rfl, s1, hk, hp⟩
      have sl2 : cutS t (some (a : Int)) (some ((a + k : Nat) : Int)) = mk (M3.slice (tl t) a (a + k)) := take_slice (by omega) hk
      have rw1 : M3.readWord M3.pwords (tl t) a = if M3.pwords.contains (M3.slice (tl t) a (a + k)) = true then .ok (M3.slice (tl t) a (a + k), a + k) else .error (a + k + 1) := by
        unfold M3.readWord
        dsimp only
        rw [hp]
      refine ⟨_, rfl, _, rfl, _, rfl, _, rfl, _, rfl, t, rfl, hz, ?_⟩
      rw [sl2]
      refine ⟨_, rfl, b, [.str "to", .str "never"], rfl, .inr (Same.seqT s1 hb), rfl, by decide, _, rfl, ?_⟩
      have hin : inV (.str (mk (M3.slice (tl t) a (a + k)))) [.str "to", .str "never"] = M3.pwords.contains (M3.slice (tl t) a (a + k)) := by
        rw [← pw_tl]
        simp only [inV, List.any_cons, List.any_nil, eqV, str_eq, List.contains_cons, List.contains_nil, tl_of_mk]
      refine ifT (fun h1 => ?_) (fun h1 => ?_)
      · have h1' : ¬ M3.pwords.contains (M3.slice (tl t) a (a + k)) = true := by
          rw [← hin]
          intro z
          have h1'' : (!inV (.str (mk (M3.slice (tl t) a (a + k)))) [.str "to", .str "never"]) = true := h1
          rw [z] at h1''
          exact Bool.noConfusion h1''
        refine ⟨_, rfl, _, _, rfl, rfl, ?_⟩
        exact mk1 (k2 (a + k + 1) (by rw [rw1, if_neg h1']) _ s1)
      · have h1' : M3.pwords.contains (M3.slice (tl t) a (a + k)) = true := by
          rw [← hin]
          have h1'' : (!inV (.str (mk (M3.slice (tl t) a (a + k)))) [.str "to", .str "never"]) = false := h1
          simpa using h1''
        refine ⟨_, rfl, _, rfl, _, rfl, _, rfl, _, rfl, t, rfl, hz, _, rfl, (by show 2 ≤ sizeLine; decide), fun p hp' => ?_⟩
        rw [sl2]
        exact k1 _ _ (by rw [rw1, if_pos h1']) p _ (s1.trans (Same.new hp')) upd_same
end
end Y
set_option Elab.async false
set_option linter.all false
set_option maxRecDepth 100000
set_option maxHeartbeats 4000000
namespace Y
open PySem L2 TL
/-- a value that is no text, as isinstance sees it -/
def NoStr (K : PySem.W.Frag) (H : Hp) (x : V) : Prop := ∃ ty : String, TyX K H x (.type ty) ∧ kitB ty "str" = some false
def spPromise (K : PySem.W.Frag) (C : Addr) : Sp := fun vs H Q E => ∃ x : V, vs = [x] ∧ ((NoStr K H x ∧ Raised C 0 H E) ∨ ∃ t : Str, x = .str t ∧ t.length ≤ 1000 ∧
  (∀ y w o z, M3.promiseOf (tl t) = .ok (y, w, o, z) → ∀ p H', Same H H' → H' p = some (.tup [.str (mk y), .str (mk w), .str (mk o), .str (mk z)]) → Q (.ref p) H') ∧ (∀ c, M3.promiseOf (tl t) = .error c → ∀ H', Same H H' → Raised C c H' E))
def spPText (K : PySem.W.Frag) : Sp := fun vs H Q _ => ∃ (a : Addr) (y w o z : Str), vs = [.ref a] ∧ SqT K H a [.str y, .str w, .str o, .str z] ∧ y.length ≤ 1000 ∧ w.length ≤ 1000 ∧ o.length ≤ 1000 ∧ z.length ≤ 1000 ∧
  Q (.str (mk (tl y ++ ([32] ++ (tl o ++ ([32] ++ (tl w ++ ([32] ++ tl z)))))))) H
theorem tl_add (x y : Str) : tl (x ++ y) = tl x ++ tl y := tl_append x y
theorem tl_empty : tl Str.empty = [] := rfl
theorem len_add (x y : Str) : (x ++ y).length = x.length + y.length := by rw [len_tl, tl_add, List.length_append, ← len_tl, ← len_tl]
theorem len_sp1 : (" " : Str).length = 1 := by decide +kernel
theorem len_empty : Str.empty.length = 0 := rfl
section
variable {P : Program} {w : World} {K : PySem.W.Frag} {mg : Str → Option Value} {base : Heap} {C fI fName fSigns fSpaces fGap fEnd fWord fRName fPromise : Addr}
theorem scPromise : FnScope ["text", "yard", "end", "one", "word", "other"] ["text"] (defScope sPromise) := ⟨rfl, rfl, rfl, by decide +kernel, rfl, by decide +kernel, by decide +kernel⟩
theorem ok_promise {fd fdS fdR fdG fdW fdE fdI : FuncData} (F : Fun K "promise_of" "promise_of" sPromise fPromise fd) (T : T3 K mg C fI fName fSigns fSpaces fGap fEnd fWord fRName fPromise)
    (GS : FnOk P w K mg base CX0 2 fSpaces fdS ["text", "at"] spSpaces) (FS : Fun K "past_spaces" "past_spaces" sSpaces fSpaces fdS) (bS : Binds K fdS ["text", "at"] [])
    (GR : FnOk P w K mg base (L2.CX P w) 3 fRName fdR ["text", "at"] (spRName C)) (FR : Fun K "read_name" "read_name" sRName fRName fdR) (bR : Binds K fdR ["text", "at"] [])
    (GG : FnOk P w K mg base (L2.CX P w) 3 fGap fdG ["text", "at"] (spGap C)) (FG : Fun K "past_gap" "past_gap" sGap fGap fdG) (bG : Binds K fdG ["text", "at"] [])
    (GW : FnOk P w K mg base (L2.CX P w) 3 fWord fdW ["text", "at", "words"] (spWord K C)) (FW : Fun K "read_word" "read_word" sWord fWord fdW) (bW : Binds K fdW ["text", "at", "words"] [])
    (GE : FnOk P w K mg base (L2.CX P w) 3 fEnd fdE ["text", "at"] (spEnd C)) (FE : Fun K "check_end" "check_end" sEnd fEnd fdE) (bE : Binds K fdE ["text", "at"] [])
    (GI : FnOk P w K mg base CX0 1 fI fdI ["self", "column"] (spX1 C "column")) (bI : Binds K fdI ["self", "column"] []) : FnOk P w K mg base (L2.CX P w) 4 fPromise fd ["text"] (spPromise K C) := by
  obtain ⟨aP, gP, qP⟩ := T.gPW
  refine F.okX scPromise (fun vs H Q E h => ?_) (fun cdv A outer s H vs Q E hr h => ?_)
  · obtain ⟨x, rfl, _⟩ := h
    rfl
  · obtain ⟨x, rfl, h⟩ := h
    have hr2 : Room 2 _ := hr.mono (by decide)
    refine ⟨_, pss_cons (ps_if (pt_not (pt_val (pe_callB call_isi (by rfl) T.isi (by decide +kernel) (pa_cons (pv 0) (pa_cons (pbT (n := "str") T.str (by decide +kernel)) pa_nil)))))
        (pss_one (ps_raise rfl (takes_of rfl rfl rfl rfl) (pmk_oex T.xc.o T.iC T.tI GI hr2 bI .nil pass0 (by rfl) T.gC (pa_cons pe_int pa_nil)))) pss_nil)
      (pss_cons (ps_asg (pe_call GR hr (by rfl) T.gRName FR.kp bR .nil (passes_call (takes_of rfl rfl rfl rfl) fun _ _ _ _ z => z) (pa_cons (pv 0) (pa_cons (pe_call GS hr2 (by rfl) T.gSpaces FS.kp bS .nil pass0 (pa_cons (pv 0) (pa_cons pe_int pa_nil))) pa_nil)))
        (pg_tup rfl (pgs_cons (pg_name (i := 1) scPromise.nd rfl (Or.inl rfl)) (pgs_cons (pg_name (i := 2) scPromise.nd rfl (Or.inl rfl)) pgs_nil))))
      (pss_cons (ps_asg (pe_call GR hr (by rfl) T.gRName FR.kp bR .nil (passes_call (takes_of rfl rfl rfl rfl) fun _ _ _ _ z => z) (pa_cons (pv 0) (pa_cons (pe_call GG hr (by rfl) T.gGap FG.kp bG .nil (passes_call (takes_of rfl rfl rfl rfl) fun _ _ _ _ z => z) (pa_cons (pv 0) (pa_cons (pv 2) pa_nil))) pa_nil)))
        (pg_tup rfl (pgs_cons (pg_name (i := 3) scPromise.nd rfl (Or.inl rfl)) (pgs_cons (pg_name (i := 2) scPromise.nd rfl (Or.inl rfl)) pgs_nil))))
      (pss_cons (ps_asg (pe_call GW hr (by rfl) T.gWord FW.kp bW .nil (passes_call (takes_of rfl rfl rfl rfl) fun _ _ _ _ z => z) (pa_cons (pv 0) (pa_cons (pe_call GG hr (by rfl) T.gGap FG.kp bG .nil (passes_call (takes_of rfl rfl rfl rfl) fun _ _ _ _ z => z) (pa_cons (pv 0) (pa_cons (pv 2) pa_nil))) (pa_cons (pgR gP) pa_nil))))
        (pg_tup rfl (pgs_cons (pg_name (i := 4) scPromise.nd rfl (Or.inl rfl)) (pgs_cons (pg_name (i := 2) scPromise.nd rfl (Or.inl rfl)) pgs_nil))))
      (pss_cons (ps_asg (pe_call GR hr (by rfl) T.gRName FR.kp bR .nil (passes_call (takes_of rfl rfl rfl rfl) fun _ _ _ _ z => z) (pa_cons (pv 0) (pa_cons (pe_call GG hr (by rfl) T.gGap FG.kp bG .nil (passes_call (takes_of rfl rfl rfl rfl) fun _ _ _ _ z => z) (pa_cons (pv 0) (pa_cons (pv 2) pa_nil))) pa_nil)))
        (pg_tup rfl (pgs_cons (pg_name (i := 5) scPromise.nd rfl (Or.inl rfl)) (pgs_cons (pg_name (i := 2) scPromise.nd rfl (Or.inl rfl)) pgs_nil))))
      (pss_cons (ps_expr (pe_call GE hr (by rfl) T.gEnd FE.kp bE .nil (passes_call (takes_of rfl rfl rfl rfl) fun _ _ _ _ z => z) (pa_cons (pv 0) (pa_cons (pv 2) pa_nil))))
      (pss_one (ps_ret (pe_tup (pa_cons (pv 1) (pa_cons (pv 4) (pa_cons (pv 3) (pa_cons (pv 5) pa_nil)))))))))))), ?_⟩
    rcases h with ⟨⟨ty, hty, hk⟩, k⟩ | ⟨t, rfl, ht, k1, k2⟩
    · refine ⟨_, rfl, _, _, _, _, false, rfl, ClsV.ty _, hty, kit_ty hk, _, rfl, iteT ?_⟩
      exact mk1 k
    · refine ⟨_, rfl, _, _, _, _, true, rfl, ClsV.ty _, .base (TyOf.str _), kit_ty (by decide +kernel), _, rfl, iteF ?_⟩
      have e0 := len_tl t
      have g0 := M3.past_le [32] (tl t) 0 (Nat.zero_le _)
      refine ⟨_, rfl, _, rfl, t, 0, rfl, Nat.zero_le _, ht, ?_⟩
      refine ⟨t, _, rfl, by omega, ht, fun y e1 q1 p1 H1 s1 h1 => ?_, fun c q1 H1 s1 => k2 c (by unfold M3.promiseOf; rw [q1]; rfl) H1 s1⟩
      have l1 := M3.readName_le g0.2 q1
      refine ⟨p1, _, rfl, SqT.of h1, rfl, _, _, rfl, _, _, rfl, rfl, ?_⟩
      refine ⟨_, rfl, _, rfl, _, rfl, t, e1, rfl, by omega, ht, fun e2 q2 => ?_, fun c q2 => k2 c (by unfold M3.promiseOf; simp only [q1, q2, bind, Except.bind]) H1 s1⟩
      have l2 := M3.pastGap_le l1 q2
      refine ⟨t, e2, rfl, by omega, ht, fun o e3 q3 p3 H3 s3 h3 => ?_, fun c q3 H3 s3 => k2 c (by unfold M3.promiseOf; simp only [q1, q2, q3, bind, Except.bind]) H3 (s1.trans s3)⟩
      have l3 := M3.readName_le l2 q3
      refine ⟨p3, _, rfl, SqT.of h3, rfl, _, _, rfl, _, _, rfl, rfl, ?_⟩
      refine ⟨_, rfl, _, rfl, _, rfl, t, e3, rfl, by omega, ht, fun e4 q4 => ?_, fun c q4 => k2 c (by unfold M3.promiseOf; simp only [q1, q2, q3, q4, bind, Except.bind]) H3 (s1.trans s3)⟩
      have l4 := M3.pastGap_le l3 q4
      refine ⟨t, e4, aP, rfl, qP _, by omega, ht, fun ww e5 q5 p5 H5 s5 h5 => ?_, fun c q5 H5 s5 => k2 c (by unfold M3.promiseOf; simp only [q1, q2, q3, q4, q5, bind, Except.bind]) H5 (s1.trans (s3.trans s5))⟩
      have l5 := M3.readWord_le l4 q5
      refine ⟨p5, _, rfl, SqT.of h5, rfl, _, _, rfl, _, _, rfl, rfl, ?_⟩
      refine ⟨_, rfl, _, rfl, _, rfl, t, e5, rfl, by omega, ht, fun e6 q6 => ?_, fun c q6 => k2 c (by unfold M3.promiseOf; simp only [q1, q2, q3, q4, q5, q6, bind, Except.bind]) H5 (s1.trans (s3.trans s5))⟩
      have l6 := M3.pastGap_le l5 q6
      refine ⟨t, e6, rfl, by omega, ht, fun z e7 q7 p7 H7 s7 h7 => ?_, fun c q7 H7 s7 => k2 c (by unfold M3.promiseOf; simp only [q1, q2, q3, q4, q5, q6, q7, bind, Except.bind]) H7 (s1.trans (s3.trans (s5.trans s7)))⟩
      have l7 := M3.readName_le l6 q7
      refine ⟨p7, _, rfl, SqT.of h7, rfl, _, _, rfl, _, _, rfl, rfl, ?_⟩
      refine ⟨_, rfl, _, rfl, t, e7, rfl, by omega, ht, fun q8 => ?_, fun c q8 => k2 c (by unfold M3.promiseOf; simp only [q1, q2, q3, q4, q5, q6, q7, q8, bind, Except.bind]) H7 (s1.trans (s3.trans (s5.trans s7)))⟩
      refine ⟨_, rfl, _, rfl, _, rfl, _, rfl, (by show 4 ≤ sizeLine; decide), fun p hp => ?_⟩
      exact k1 y ww o z (by unfold M3.promiseOf; simp only [q1, q2, q3, q4, q5, q6, q7, q8, bind, Except.bind]) p _ (s1.trans (s3.trans (s5.trans (s7.trans (Same.new hp))))) upd_same
theorem scPText : FnScope ["promise", "yard", "word", "one", "other"] ["promise"] (defScope sPText) := ⟨rfl, rfl, rfl, by decide +kernel, rfl, by decide +kernel, by decide +kernel⟩
theorem ok_ptext {f : Addr} {fd : FuncData} (F : Fun K "promise_text" "promise_text" sPText f fd) : FnOk P w K mg base CX0 1 f fd ["promise"] (spPText K) := by
  refine F.ok scPText (fun vs H Q E h => ?_) (fun cdv A outer s H vs Q E hr h => ?_)
  · obtain ⟨a, y, w, o, z, rfl, _⟩ := h
    rfl
  · obtain ⟨a, y, ww, o, z, rfl, ha, hy, hw, ho, hz, k⟩ := h
    refine ⟨_, pss_cons (ps_asg (pv 0) (pg_tup rfl (pgs_cons (pg_name (i := 1) scPText.nd rfl (Or.inl rfl)) (pgs_cons (pg_name (i := 2) scPText.nd rfl (Or.inl rfl)) (pgs_cons (pg_name (i := 3) scPText.nd rfl (Or.inl rfl)) (pgs_cons (pg_name (i := 4) scPText.nd rfl (Or.inl rfl)) pgs_nil))))))
      (pss_one (ps_ret (pe_joined (PJ.cons (pe_fmt (pv 1)) (PJ.cons pe_str (PJ.cons (pe_fmt (pv 3)) (PJ.cons pe_str (PJ.cons (pe_fmt (pv 2)) (PJ.cons pe_str (PJ.cons (pe_fmt (pv 4)) PJ.nil)))))))))), ?_⟩
    refine ⟨_, rfl, a, _, rfl, ha, rfl, _, _, rfl, _, _, rfl, _, _, rfl, _, _, rfl, rfl, ?_⟩
    have sz : ∀ n, n ≤ 10000 → n ≤ sizeLine := fun n h => Nat.le_trans h (by decide)
    have b : ∀ x : Str, x.length ≤ 1000 → x.length ≤ sizeLine := fun x h => sz _ (by omega)
    refine ⟨_, rfl, .inl ⟨y, rfl, b _ hy, _, rfl, ?_, _, rfl, ?_, _, rfl, .inl ⟨o, rfl, b _ ho, _, rfl, ?_, _, rfl, ?_, _, rfl, .inl ⟨ww, rfl, b _ hw, _, rfl, ?_, _, rfl, ?_, _, rfl, .inl ⟨z, rfl, b _ hz, _, rfl, ?_, ?_⟩⟩⟩⟩⟩
    all_goals first
      | (refine sz _ ?_; simp only [len_add, len_sp1, len_empty]; omega)
      | skip
    have e : Str.empty ++ y ++ " " ++ o ++ " " ++ ww ++ " " ++ z = mk (tl y ++ ([32] ++ (tl o ++ ([32] ++ (tl ww ++ ([32] ++ tl z)))))) := ext_tl (by
      rw [tl_of_mk]
      simp only [tl_add, tl_empty, space_tl, List.nil_append, List.append_assoc])
    show Q (.str (Str.empty ++ y ++ " " ++ o ++ " " ++ ww ++ " " ++ z)) H
    rw [e]
    exact k
end
end Y
set_option Elab.async false
set_option linter.all false
set_option maxRecDepth 100000
set_option maxHeartbeats 4000000
namespace Y
open PySem L2 TL
abbrev sWhy : Stmt := top 22
abbrev sLName : Stmt := top 23
abbrev sWrong : Stmt := top 24
abbrev sLaw : Stmt := top 25
structure TL3 (K : PySem.W.Frag) (mg : Str → Option Value) (C CY fDraw fPick fPromise fPText fPen fWhy fLName fWrong : Addr) : Prop where
  p : TxP K mg fDraw
  isi : mg "isinstance" = none
  len : mg "len" = none
  range : mg "range" = none
  gC : mg "BadText" = some (.ref C)
  gY : mg "YardError" = some (.ref CY)
  xc : XcC K C
  xi : XiC K C
  nC : PySem.W.findIn K (.ref C) "column" = some none
  te : PySem.W.exmOne K (.ref C) (.ref C) = some true
  ki : PySem.W.kitOne K (.ref C) (.ref CY) = some true
  gPick : mg "_law_pick" = some (.ref fPick)
  gPromise : mg "promise_of" = some (.ref fPromise)
  gPText : mg "promise_text" = some (.ref fPText)
  gPen : mg "_law_pen" = some (.ref fPen)
  gWhy : mg "_law_why" = some (.ref fWhy)
  gLName : mg "_law_name" = some (.ref fLName)
  gWrong : mg "_law_wrong" = some (.ref fWrong)
  stat : PySem.W.nsIn K cStatics sharingNotToldKey = some none
def whyV (t : Str) : V := match M3.why (tl t) with | none => .non | some c => .int (c : Nat)
def spWhy (K : PySem.W.Frag) : Sp := fun vs H Q _ => ∃ x : V, vs = [x] ∧ ((NoStr K H x ∧ ∀ H', Same H H' → Q (.int 0) H') ∨ ∃ t : Str, x = .str t ∧ t.length ≤ 1000 ∧ ∀ H', Same H H' → Q (whyV t) H')
def spLName : Sp := fun vs H Q _ => ∃ (p : Addr) (b : Nat), vs = [.ref p] ∧ Pen H p (b + 3) ∧ ∀ (z : Str) (H' : Hp), M3.isName (tl z) = true → Pen H' p b → But p H H' → Q (.str z) H'
/-- a wrong text and its column, whatever spaces stand ahead -/
def Good (z : Str) (c : Int) : Prop := z.length ≤ 100 ∧ 0 ≤ c ∧ ∀ k, k ≤ 2 → M3.why (M3.sp k ++ tl z) = some (c.toNat + k)
def spWrong : Sp := fun vs H Q _ => ∃ (p : Addr) (b : Nat), vs = [.ref p] ∧ Pen H p (b + 2) ∧ ∀ (q : Addr) (z : Str) (c : Int) (H' : Hp), Good z c → H' q = some (.tup [.str z, .int c]) → Pen H' p b → But p H H' → Q (.ref q) H'
section
variable {P : Program} {w : World} {K : PySem.W.Frag} {mg : Str → Option Value} {base : Heap} {C CY fDraw fPick fPromise fPText fPen fWhy fLName fWrong : Addr}
theorem scWhy : FnScope ["_law_text", "e"] ["_law_text"] (defScope sWhy) := ⟨rfl, rfl, rfl, by decide +kernel, rfl, by decide +kernel, by decide +kernel⟩
def tSuite (K : PySem.W.Frag) (C CY : Addr) : Addr → Value → Option Addr → TS := fun a cls d =>
  tRet (tIf (tB (tCB (rIsX K C a cls d) (tCons (tVar 1) (tCons (tC (.ref CY)) tNil)))) (tXf a cls d C "column" (tVar 1)) (tC .non))
theorem ok_why {fd fdP : FuncData} (F : Fun K "_law_why" "_law_why" sWhy fWhy fd) (T : TL3 K mg C CY fDraw fPick fPromise fPText fPen fWhy fLName fWrong)
    (GP : FnOk P w K mg base (L2.CX P w) 4 fPromise fdP ["text"] (spPromise K C)) (FP : Fun K "promise_of" "promise_of" sPromise fPromise fdP) (bP : Binds K fdP ["text"] []) : FnOk P w K mg base CX0 5 fWhy fd ["_law_text"] (spWhy K) := by
  refine F.ok scWhy (fun vs H Q E h => ?_) (fun cdv A outer s H vs Q E hr h => ?_)
  · obtain ⟨x, rfl, _⟩ := h
    rfl
  · obtain ⟨x, rfl, h⟩ := h
    refine ⟨_, pss_cons (ps_try_as (i := 1) (tb := fun W => tDrop (tCallS (spPromise K C) (WE W) (tCons (tVar 0) tNil))) (ts := tSuite K C CY) (Wout := fun _ _ _ _ => False) rfl rfl scWhy.nd rfl rfl ⟨rfl, by decide, Or.inl T.gC⟩ takes0
        (fun W pn xe tk _ => pss_one (ps_expr (by exact (pe_callS GP hr rfl T.gPromise FP.kp bP (fun σ => passAt tk σ) (by exact (pa_cons (pv 0) pa_nil))))))
        (fun a oe cls d pn hz hf => pss_one (ps_ret (by exact (pe_ifExp (pt_val (pe_callB (call_isX T.xi hz hf) (by rfl) T.isi (by decide +kernel) (pa_cons (pv 1) (pa_cons (pgR T.gY) pa_nil)))) (pe_xf T.xc.x T.nC hz hf (pv 1)) pe_non)))))
      (pss_one (ps_ret pe_non)), ?_⟩
    have raised : ∀ (c : Nat) (H1 : Hp), Same H H1 → (∀ H', Same H H' → Q (.int (c : Nat)) H') → Raised C c H1 (WE (wAs K (.ref C) 1 (tSuite K C CY) (fun _ _ _ _ => False) { nx := tRet (tC V.non) { nx := fun _ H' => Q .non H', rt := Q }, rt := Q }) (L2.start ["_law_text", "e"] [x])) := fun c H1 s1 hq d H2 s2 hd e2 => by
      refine ⟨true, T.te, fun _ a ha => ?_, fun z => Bool.noConfusion z⟩
      refine ⟨_, rfl, _, _, true, d, _, rfl, ClsV.own _, rfl, rfl, e2, T.ki, _, rfl, ?_⟩
      exact iteT ⟨_, rfl, rfl, rfl, d, _, _, rfl, e2, rfl, hq _ (s1.trans s2)⟩
    rcases h with ⟨hn, k⟩ | ⟨t, rfl, ht, k⟩
    · exact ⟨_, rfl, x, rfl, .inl ⟨hn, raised 0 H (Same.refl H) k⟩⟩
    · refine ⟨_, rfl, _, rfl, .inr ⟨t, rfl, ht, fun y ww o z q1 p H' s' h' => ?_, fun c q1 H' s' => raised c H' s' fun H2 s2 => ?_⟩⟩
      · have e : whyV t = .non := by unfold whyV M3.why; rw [q1]
        have := k H' s'
        rw [e] at this
        exact this
      · have e : whyV t = .int (c : Nat) := by unfold whyV M3.why; rw [q1]
        have := k H2 s2
        rw [e] at this
        exact this
end
end Y
set_option Elab.async false
set_option linter.all false
set_option maxRecDepth 100000
set_option maxHeartbeats 4000000
namespace Y
open PySem L2 TL
theorem strs_get {zs : List Str} {i : Nat} {x : V} (h : (zs.map V.str)[i]? = some x) : ∃ z, z ∈ zs ∧ x = V.str z := by
  rw [List.getElem?_map] at h
  cases e : zs[i]? with
  | none => rw [e] at h; cases h
  | some z => rw [e] at h; exact ⟨z, List.mem_of_getElem? e, (Option.some.inj h).symm⟩
theorem cut_to {t : Str} {k : Nat} : tl (cutS t none (some (k : Int))) = (tl t).take k := by
  show (List.take (HT.sIx t.length t.length (some (k : Int)) - HT.sIx t.length 0 none) (List.drop (HT.sIx t.length 0 none) t.cps.toList)) = (tl t).take k
  rw [HT.sIx_nat, HT.sIx_none, List.drop_zero, Nat.sub_zero, len_tl t]
  rw [Nat.min_def]
  split
  · rfl
  · rw [List.take_of_length_le (Nat.le_refl _), List.take_of_length_le (by omega)]
def zA : List Str := ["yard", "tie", "to", "never", "end", "stand", "a", "b", "ring"]
def zB : List Str := ["s", "_", "x1", "9"]
def zC : List Str := ["", "", "z", "_2"]
theorem all_names : ∀ a ∈ zA, ∀ b ∈ zB, ∀ c ∈ zC, M3.isName ((tl a ++ (tl b ++ tl c)).take 12) = true := by decide +kernel
theorem lens : (∀ a ∈ zA, a.length ≤ 10) ∧ (∀ a ∈ zB, a.length ≤ 10) ∧ (∀ a ∈ zC, a.length ≤ 10) := by decide +kernel
section
variable {P : Program} {w : World} {K : PySem.W.Frag} {mg : Str → Option Value} {base : Heap} {C CY fDraw fPick fPromise fPText fPen fWhy fLName fWrong : Addr}
theorem scLName : FnScope ["_law_pen_here", "_law_word"] ["_law_pen_here"] (defScope sLName) := ⟨rfl, rfl, rfl, by decide +kernel, rfl, by decide +kernel, by decide +kernel⟩
theorem ok_lname {fd fdP : FuncData} (F : Fun K "_law_name" "_law_name" sLName fLName fd) (T : TL3 K mg C CY fDraw fPick fPromise fPText fPen fWhy fLName fWrong)
    (GP : FnOk P w K mg base CX0 2 fPick fdP ["_law_pen_here", "_law_some"] (spPick K)) (FP : Fun K "_law_pick" "_law_pick" sPick fPick fdP) (bP : Binds K fdP ["_law_pen_here", "_law_some"] []) : FnOk P w K mg base CX0 3 fLName fd ["_law_pen_here"] spLName := by
  refine F.ok scLName (fun vs H Q E h => ?_) (fun cdv A outer s H vs Q E hr h => ?_)
  · obtain ⟨p, b, rfl, _⟩ := h
    rfl
  · obtain ⟨p, b, rfl, hP, k⟩ := h
    refine ⟨_, pss_cons (ps_set (i := 1) scLName.nd rfl (Or.inl rfl) (pe_call GP hr (by rfl) T.gPick FP.kp bP .nil pass0 (pa_cons (pv 0) (pa_cons (pe_lst (pa_cons pe_str (pa_cons pe_str (pa_cons pe_str (pa_cons pe_str (pa_cons pe_str (pa_cons pe_str (pa_cons pe_str (pa_cons pe_str (pa_cons pe_str pa_nil)))))))))) pa_nil))))
      (pss_one (ps_ret (pe_slice sl_str (pe_op op_add_str (pe_op op_add_str (pv 1) (pe_call GP hr (by rfl) T.gPick FP.kp bP .nil pass0 (pa_cons (pv 0) (pa_cons (pe_lst (pa_cons pe_str (pa_cons pe_str (pa_cons pe_str (pa_cons pe_str pa_nil))))) pa_nil))))
        (pe_call GP hr (by rfl) T.gPick FP.kp bP .nil pass0 (pa_cons (pv 0) (pa_cons (pe_lst (pa_cons pe_str (pa_cons pe_str (pa_cons pe_str (pa_cons pe_str pa_nil))))) pa_nil)))) po_none (po_some pe_int)))), ?_⟩
    refine ⟨_, rfl, (by show 9 ≤ sizeLine; decide), fun l1 n1 => ?_⟩
    refine ⟨p, l1, zA.map V.str, b + 2, rfl, hP.same (Same.new n1), .inl (SqL.of upd_same), by decide, by decide, fun x i H1 hx P1 B1 => ?_⟩
    obtain ⟨z1, m1, rfl⟩ := strs_get hx
    have b1 : But p H H1 := (But.of_same (Same.new n1)).trans B1
    refine ⟨_, rfl, _, rfl, (by show 4 ≤ sizeLine; decide), fun l2 n2 => ?_⟩
    refine ⟨p, l2, zB.map V.str, b + 1, rfl, P1.same (Same.new n2), .inl (SqL.of upd_same), by decide, by decide, fun x i H2 hx P2 B2 => ?_⟩
    obtain ⟨z2, m2, rfl⟩ := strs_get hx
    have b2 : But p H H2 := (b1.trans (But.of_same (Same.new n2))).trans B2
    have q1 := lens.1 _ m1
    have q2 := lens.2.1 _ m2
    have sz : ∀ n, n ≤ 10000 → n ≤ sizeLine := fun n h => Nat.le_trans h (by decide)
    refine ⟨_, _, rfl, rfl, sz _ (by omega), ?_⟩
    refine ⟨_, rfl, (by show 4 ≤ sizeLine; decide), fun l3 n3 => ?_⟩
    refine ⟨p, l3, zC.map V.str, b, rfl, P2.same (Same.new n3), .inl (SqL.of upd_same), by decide, by decide, fun x i H3 hx P3 B3 => ?_⟩
    obtain ⟨z3, m3, rfl⟩ := strs_get hx
    have b3 : But p H H3 := (b2.trans (But.of_same (Same.new n3))).trans B3
    have q3 := lens.2.2 _ m3
    refine ⟨_, _, rfl, rfl, sz _ (by rw [len_add]; omega), _, rfl, _, rfl, sz _ (by rw [len_add, len_add]; omega), ?_⟩
    refine k _ _ ?_ P3 b3
    rw [show (some 12 : Option Int) = some ((12 : Nat) : Int) from rfl, cut_to, tl_add, tl_add, List.append_assoc]
    exact all_names _ m1 _ m2 _ m3
end
/-! ### wrong texts -/
def EvG (σ : L2.St) (t : TE) : Prop := ∀ (H : Hp) (Q : VK), (∀ (a : Addr) (z : Str) (c : Int) (H' : Hp), Good z c → Same H H' → H' a = some (.tup [.str z, .int c]) → Q (.ref a) H') → t σ H Q
def GoodL (H : Hp) (vs : List V) : Prop := ∀ x ∈ vs, ∃ (a : Addr) (z : Str) (c : Int), x = .ref a ∧ Good z c ∧ H a = some (.tup [.str z, .int c])
theorem GoodL.same {H H' : Hp} {vs : List V} (h : GoodL H vs) (s : Same H H') : GoodL H' vs := fun x hx => let ⟨a, z, c, e, g, q⟩ := h x hx; ⟨a, z, c, e, g, s _ _ q⟩
def GL (σ : L2.St) (n : Nat) (ta : TA) : Prop := ∀ (H : Hp) (Q : List V → Hp → Prop), (∀ vs H', vs.length = n → Same H H' → GoodL H' vs → Q vs H') → ta σ H Q
theorem gl_nil {σ : L2.St} : GL σ 0 tNil := fun H Q h => h [] H rfl (Same.refl H) (fun x hx => by cases hx)
theorem gl_cons {σ : L2.St} {n : Nat} {t : TE} {ta : TA} (h : EvG σ t) (r : GL σ n ta) : GL σ (n + 1) (tCons t ta) := fun H Q k => by
  refine h H _ fun a z c H1 g s1 e1 => ?_
  refine r H1 _ fun vs H2 hl s2 g2 => ?_
  refine k (.ref a :: vs) H2 (by rw [List.length_cons, hl]) (s1.trans s2) fun x hx => ?_
  rcases List.mem_cons.mp hx with rfl | hx
  · exact ⟨a, z, c, rfl, g, s2 _ _ e1⟩
  · exact g2 x hx
theorem ev_tup {σ : L2.St} {t1 t2 : TE} (h : ∀ (H : Hp) (Q : List V → Hp → Prop), (∀ z c, Good z c → Q [.str z, .int c] H) → tCons t1 (tCons t2 tNil) σ H Q) : EvG σ (tTup (tCons t1 (tCons t2 tNil))) := fun H Q k => by
  refine h H _ fun z c g => ⟨by show 2 ≤ sizeLine; decide, fun p hp => ?_⟩
  exact k p z c _ g (Same.new hp) upd_same
theorem ev_c {σ : L2.St} {z : Str} {c : Int} (g : Good z c) : EvG σ (tTup (tCons (tC (.str z)) (tCons (tC (.int c)) tNil))) := ev_tup fun H Q k => k z c g
def goodB (z : Str) (c : Int) : Bool := decide (z.length ≤ 100) && (decide (0 ≤ c) && (decide (M3.why (tl z) = some c.toNat) && (decide (M3.why (M3.sp 1 ++ tl z) = some (c.toNat + 1)) && decide (M3.why (M3.sp 2 ++ tl z) = some (c.toNat + 2)))))
theorem good_of {z : Str} {c : Int} (h : goodB z c = true) : Good z c := by
  unfold goodB at h
  simp only [Bool.and_eq_true, decide_eq_true_eq] at h
  obtain ⟨h1, h2, h3, h4, h5⟩ := h
  refine ⟨h1, h2, fun k hk => ?_⟩
  match k, hk with
  | 0, _ => exact h3
  | 1, _ => exact h4
  | 2, _ => exact h5
  | k + 3, hk => omega
def zW : List Str := ["yard", "places", "tie", "way", "ring", "stand", "end", "to", "never"]
theorem goodW0 : ∀ z ∈ zW, goodB z (1 + (z.length : Int)) = true := by decide +kernel
theorem goodW1 : ∀ z ∈ zW, goodB (z ++ " a to b") (1 + (z.length : Int)) = true := by decide +kernel
theorem goodW2 : ∀ z ∈ zW, goodB ("y " ++ z) (3 + (z.length : Int)) = true := by decide +kernel
theorem goodW3 : ∀ z ∈ zW, goodB ("y a to " ++ z) (8 + (z.length : Int)) = true := by decide +kernel
theorem lenW : ∀ z ∈ zW, z.length ≤ 10 := by decide +kernel
end Y
set_option Elab.async false
set_option linter.all false
set_option maxRecDepth 100000
set_option maxHeartbeats 400000
namespace Y
open PySem L2 TL
theorem scWrong : FnScope ["_law_pen_here", "_law_word", "_law_ways"] ["_law_pen_here"] (defScope sWrong) := ⟨rfl, rfl, rfl, by decide +kernel, rfl, by decide +kernel, by decide +kernel⟩
theorem cat_step {σ : L2.St} {ta : TA} {n m : Nat} {H : Hp} {Q : VK} {q : Addr} {vs : List V} (g : GL σ m ta) (hσ : σ[2]? = some (some (.ref q))) (hq : H q = some (.lst vs)) (hg : GoodL H vs) (hn : vs.length = n) (hs : n + m ≤ 1000)
    (k : ∀ (q' : Addr) (vs' : List V) (H' : Hp), Same H H' → H' q' = some (.lst vs') → GoodL H' vs' → vs'.length = n + m → Q (.ref q') H') : tOp rCat (tVar 2) (tLst ta) σ H Q := by
  refine ⟨_, hσ, ?_⟩
  refine g H _ fun ws H1 hl s1 g1 => ⟨by rw [hl]; exact small_line (by omega), fun q1 n1 => ?_⟩
  refine ⟨q, q1, vs, ws, rfl, rfl, by rw [upd_ne (ne_of_none (s1 _ _ hq) n1)]; exact s1 _ _ hq, upd_same, small_line (by omega), fun q2 n2 => ?_⟩
  have s2 : Same H (upd (upd H1 q1 (.lst ws)) q2 (.lst (vs ++ ws))) := (s1.trans (Same.new n1)).trans (Same.new n2)
  refine k q2 (vs ++ ws) _ s2 upd_same (fun x hx => ?_) (by rw [List.length_append, hn, hl])
  rcases List.mem_append.mp hx with hx | hx
  · exact hg.same s2 x hx
  · exact g1.same ((Same.new n1).trans (Same.new n2)) x hx
theorem gname_go {i : Nat} {v : V} {σ : L2.St} {H : Hp} {Q : L2.St → Hp → Prop} (h : Q (σ.set i (some v)) H) : gName i v σ H Q := h
theorem seq_lst {σ : L2.St} {ta : TA} {n : Nat} {H : Hp} {D : Ends} {u : TS} (g : GL σ n ta) (hs : n ≤ 1000)
    (k : ∀ (q : Addr) (vs : List V) (H' : Hp), Same H H' → H' q = some (.lst vs) → GoodL H' vs → vs.length = n → u D (σ.set 2 (some (.ref q))) H') : tSeq (tAsg (tLst ta) (gName 2)) u D σ H :=
  g H _ fun vs H1 hl s1 g1 => ⟨by rw [hl]; exact small_line hs, fun q hq => k q vs _ (s1.trans (Same.new hq)) upd_same (g1.same (Same.new hq)) hl⟩
theorem seq_cat {σ : L2.St} {ta : TA} {n m : Nat} {H : Hp} {D : Ends} {u : TS} {q : Addr} {vs : List V} (hσ : σ[2]? = some (some (.ref q))) (hq : H q = some (.lst vs)) (hg : GoodL H vs) (hn : vs.length = n) (hs : n + m ≤ 1000) (g : GL σ m ta)
    (k : ∀ (q' : Addr) (vs' : List V) (H' : Hp), Same H H' → H' q' = some (.lst vs') → GoodL H' vs' → vs'.length = n + m → u D (σ.set 2 (some (.ref q'))) H') : tSeq (tAsg (tOp rCat (tVar 2) (tLst ta)) (gName 2)) u D σ H :=
  cat_step g hσ hq hg hn hs k
section
variable {P : Program} {w : World} {K : PySem.W.Frag} {mg : Str → Option Value} {base : Heap} {C CY fDraw fPick fPromise fPText fPen fWhy fLName fWrong : Addr}
theorem ok_wrong {fd fdP : FuncData} (F : Fun K "_law_wrong" "_law_wrong" sWrong fWrong fd) (T : TL3 K mg C CY fDraw fPick fPromise fPText fPen fWhy fLName fWrong)
    (GP : FnOk P w K mg base CX0 2 fPick fdP ["_law_pen_here", "_law_some"] (spPick K)) (FP : Fun K "_law_pick" "_law_pick" sPick fPick fdP) (bP : Binds K fdP ["_law_pen_here", "_law_some"] []) : FnOk P w K mg base CX0 3 fWrong fd ["_law_pen_here"] spWrong := by
  refine F.ok scWrong (fun vs H Q E h => ?_) (fun cdv A outer s H vs Q E hr h => ?_)
  · obtain ⟨p, b, rfl, _⟩ := h
    rfl
  · obtain ⟨p, b, rfl, hP, k⟩ := h
    refine ⟨_, pss_cons (ps_set (i := 1) scWrong.nd rfl (Or.inl rfl) (pe_call GP hr (by rfl) T.gPick FP.kp bP .nil pass0 (pa_cons (pv 0) (pa_cons (pe_lst (pa_cons pe_str (pa_cons pe_str (pa_cons pe_str (pa_cons pe_str (pa_cons pe_str (pa_cons pe_str (pa_cons pe_str (pa_cons pe_str (pa_cons pe_str pa_nil)))))))))) pa_nil))))
      (pss_cons (ps_set (i := 2) scWrong.nd rfl (Or.inl rfl) (pe_lst (pa_cons (pe_tup (pa_cons pe_str (pa_cons pe_int pa_nil))) (pa_cons (pe_tup (pa_cons pe_str (pa_cons pe_int pa_nil))) (pa_cons (pe_tup (pa_cons pe_str (pa_cons pe_int pa_nil))) (pa_cons (pe_tup (pa_cons pe_str (pa_cons pe_int pa_nil))) (pa_cons (pe_tup (pa_cons pe_str (pa_cons pe_int pa_nil))) (pa_cons (pe_tup (pa_cons pe_str (pa_cons pe_int pa_nil))) (pa_cons (pe_tup (pa_cons (pv 1) (pa_cons (pe_op op_add pe_int (pe_callB call_len_str (by rfl) T.len PySem.boot_len (pa_cons (pv 1) pa_nil))) pa_nil))) pa_nil)))))))))
      (pss_cons (ps_set (i := 2) scWrong.nd rfl (Or.inl rfl) (pe_op op_cat (pv 2) (pe_lst (pa_cons (pe_tup (pa_cons (pe_op op_add_str (pv 1) pe_str) (pa_cons (pe_op op_add pe_int (pe_callB call_len_str (by rfl) T.len PySem.boot_len (pa_cons (pv 1) pa_nil))) pa_nil))) (pa_cons (pe_tup (pa_cons pe_str (pa_cons pe_int pa_nil))) (pa_cons (pe_tup (pa_cons (pe_op op_add_str pe_str (pv 1)) (pa_cons (pe_op op_add pe_int (pe_callB call_len_str (by rfl) T.len PySem.boot_len (pa_cons (pv 1) pa_nil))) pa_nil))) (pa_cons (pe_tup (pa_cons pe_str (pa_cons pe_int pa_nil))) pa_nil)))))))
      (pss_cons (ps_set (i := 2) scWrong.nd rfl (Or.inl rfl) (pe_op op_cat (pv 2) (pe_lst (pa_cons (pe_tup (pa_cons pe_str (pa_cons pe_int pa_nil))) (pa_cons (pe_tup (pa_cons pe_str (pa_cons pe_int pa_nil))) (pa_cons (pe_tup (pa_cons pe_str (pa_cons pe_int pa_nil))) (pa_cons (pe_tup (pa_cons pe_str (pa_cons pe_int pa_nil))) (pa_cons (pe_tup (pa_cons pe_str (pa_cons pe_int pa_nil))) (pa_cons (pe_tup (pa_cons pe_str (pa_cons pe_int pa_nil))) pa_nil)))))))))
      (pss_cons (ps_set (i := 2) scWrong.nd rfl (Or.inl rfl) (pe_op op_cat (pv 2) (pe_lst (pa_cons (pe_tup (pa_cons pe_str (pa_cons pe_int pa_nil))) (pa_cons (pe_tup (pa_cons (pe_op op_add_str pe_str (pv 1)) (pa_cons (pe_op op_add pe_int (pe_callB call_len_str (by rfl) T.len PySem.boot_len (pa_cons (pv 1) pa_nil))) pa_nil))) (pa_cons (pe_tup (pa_cons pe_str (pa_cons pe_int pa_nil))) (pa_cons (pe_tup (pa_cons pe_str (pa_cons pe_int pa_nil))) pa_nil)))))))
      (pss_cons (ps_set (i := 2) scWrong.nd rfl (Or.inl rfl) (pe_op op_cat (pv 2) (pe_lst (pa_cons (pe_tup (pa_cons pe_str (pa_cons pe_int pa_nil))) (pa_cons (pe_tup (pa_cons pe_str (pa_cons pe_int pa_nil))) (pa_cons (pe_tup (pa_cons pe_str (pa_cons pe_int pa_nil))) (pa_cons (pe_tup (pa_cons pe_str (pa_cons pe_int pa_nil))) pa_nil)))))))
      (pss_cons (ps_set (i := 2) scWrong.nd rfl (Or.inl rfl) (pe_op op_cat (pv 2) (pe_lst (pa_cons (pe_tup (pa_cons pe_str (pa_cons pe_int pa_nil))) (pa_cons (pe_tup (pa_cons pe_str (pa_cons pe_int pa_nil))) (pa_cons (pe_tup (pa_cons pe_str (pa_cons pe_int pa_nil))) (pa_cons (pe_tup (pa_cons pe_str (pa_cons pe_int pa_nil))) pa_nil)))))))
      (pss_cons (ps_set (i := 2) scWrong.nd rfl (Or.inl rfl) (pe_op op_cat (pv 2) (pe_lst (pa_cons (pe_tup (pa_cons pe_str (pa_cons pe_int pa_nil))) pa_nil))))
      (pss_one (ps_ret (pe_call GP hr (by rfl) T.gPick FP.kp bP .nil pass0 (pa_cons (pv 0) (pa_cons (pv 2) pa_nil)))))))))))), ?_⟩
    refine ⟨_, rfl, (by show 9 ≤ sizeLine; decide), fun l1 n1 => ?_⟩
    refine ⟨p, l1, zW.map V.str, b + 1, rfl, hP.same (Same.new n1), .inl (SqL.of upd_same), by decide, by decide, fun x i H1 hx P1 B1 => ?_⟩
    obtain ⟨z, mz, rfl⟩ := strs_get hx
    have b1 : But p H H1 := (But.of_same (Same.new n1)).trans B1
    have hl := lenW _ mz
    have sz : ∀ n, n ≤ 10000 → n ≤ sizeLine := fun n h => Nat.le_trans h (by decide)
    have hz := sz _ (show z.length ≤ 10000 by omega)
    have w0 : ∀ v3 : Option V, EvG [some (.ref p), some (.str z), v3] (tTup (tCons (tVar 1) (tCons (tOp (rI0 fun i j => .int (i + j)) (tC (.int 1)) (tCB (fun xs H Q => ∃ z, xs = [.str z] ∧ z.length ≤ sizeLine ∧ Q (.int z.length) H) (tCons (tVar 1) tNil))) tNil))) := fun v3 =>
      ev_tup fun H Q k => ⟨_, rfl, _, rfl, _, rfl, hz, _, _, rfl, rfl, k _ _ (good_of (goodW0 _ mz))⟩
    have w1 : ∀ v3 : Option V, EvG [some (.ref p), some (.str z), v3] (tTup (tCons (tOp (fun x y H Q => ∃ i j, x = .str i ∧ y = .str j ∧ i.length + j.length ≤ sizeLine ∧ Q (.str (i ++ j)) H) (tVar 1) (tC (.str " a to b"))) (tCons (tOp (rI0 fun i j => .int (i + j)) (tC (.int 1)) (tCB (fun xs H Q => ∃ z, xs = [.str z] ∧ z.length ≤ sizeLine ∧ Q (.int z.length) H) (tCons (tVar 1) tNil))) tNil))) := fun v3 =>
      ev_tup fun H Q k => ⟨_, rfl, _, _, rfl, rfl, sz _ (by have : (" a to b" : Str).length = 7 := (by decide +kernel); omega), _, rfl, _, rfl, hz, _, _, rfl, rfl, k _ _ (good_of (goodW1 _ mz))⟩
    have w2 : ∀ v3 : Option V, EvG [some (.ref p), some (.str z), v3] (tTup (tCons (tOp (fun x y H Q => ∃ i j, x = .str i ∧ y = .str j ∧ i.length + j.length ≤ sizeLine ∧ Q (.str (i ++ j)) H) (tC (.str "y ")) (tVar 1)) (tCons (tOp (rI0 fun i j => .int (i + j)) (tC (.int 3)) (tCB (fun xs H Q => ∃ z, xs = [.str z] ∧ z.length ≤ sizeLine ∧ Q (.int z.length) H) (tCons (tVar 1) tNil))) tNil))) := fun v3 =>
      ev_tup fun H Q k => ⟨_, rfl, _, _, rfl, rfl, sz _ (by have : ("y " : Str).length = 2 := (by decide +kernel); omega), _, rfl, _, rfl, hz, _, _, rfl, rfl, k _ _ (good_of (goodW2 _ mz))⟩
    have w3 : ∀ v3 : Option V, EvG [some (.ref p), some (.str z), v3] (tTup (tCons (tOp (fun x y H Q => ∃ i j, x = .str i ∧ y = .str j ∧ i.length + j.length ≤ sizeLine ∧ Q (.str (i ++ j)) H) (tC (.str "y a to ")) (tVar 1)) (tCons (tOp (rI0 fun i j => .int (i + j)) (tC (.int 8)) (tCB (fun xs H Q => ∃ z, xs = [.str z] ∧ z.length ≤ sizeLine ∧ Q (.int z.length) H) (tCons (tVar 1) tNil))) tNil))) := fun v3 =>
      ev_tup fun H Q k => ⟨_, rfl, _, _, rfl, rfl, sz _ (by have : ("y a to " : Str).length = 7 := (by decide +kernel); omega), _, rfl, _, rfl, hz, _, _, rfl, rfl, k _ _ (good_of (goodW3 _ mz))⟩
    refine gname_go ?_
    dsimp only
    refine seq_lst (n := 7) (H := H1) ?g0 (by decide) fun q0 vs0 G0 t0 e0 k0 hl0 => ?_
    case g0 => exact (gl_cons (ev_c (good_of (by decide +kernel))) (gl_cons (ev_c (good_of (by decide +kernel))) (gl_cons (ev_c (good_of (by decide +kernel))) (gl_cons (ev_c (good_of (by decide +kernel))) (gl_cons (ev_c (good_of (by decide +kernel))) (gl_cons (ev_c (good_of (by decide +kernel))) (gl_cons (w0 _) gl_nil)))))))
    refine seq_cat (n := 7) (m := 4) rfl e0 k0 hl0 (by decide) ?g1 fun q1 vs1 G1 s1 e1 k1 hl1 => ?_
    case g1 => exact (gl_cons (w1 _) (gl_cons (ev_c (good_of (by decide +kernel))) (gl_cons (w2 _) (gl_cons (ev_c (good_of (by decide +kernel))) gl_nil))))
    refine seq_cat (n := 11) (m := 6) rfl e1 k1 hl1 (by decide) ?g2 fun q2 vs2 G2 s2 e2 k2 hl2 => ?_
    case g2 => exact (gl_cons (ev_c (good_of (by decide +kernel))) (gl_cons (ev_c (good_of (by decide +kernel))) (gl_cons (ev_c (good_of (by decide +kernel))) (gl_cons (ev_c (good_of (by decide +kernel))) (gl_cons (ev_c (good_of (by decide +kernel))) (gl_cons (ev_c (good_of (by decide +kernel))) gl_nil))))))
    refine seq_cat (n := 17) (m := 4) rfl e2 k2 hl2 (by decide) ?g3 fun q3 vs3 G3 s3 e3 k3 hl3 => ?_
    case g3 => exact (gl_cons (ev_c (good_of (by decide +kernel))) (gl_cons (w3 _) (gl_cons (ev_c (good_of (by decide +kernel))) (gl_cons (ev_c (good_of (by decide +kernel))) gl_nil))))
    refine seq_cat (n := 21) (m := 4) rfl e3 k3 hl3 (by decide) ?g4 fun q4 vs4 G4 s4 e4 k4 hl4 => ?_
    case g4 => exact (gl_cons (ev_c (good_of (by decide +kernel))) (gl_cons (ev_c (good_of (by decide +kernel))) (gl_cons (ev_c (good_of (by decide +kernel))) (gl_cons (ev_c (good_of (by decide +kernel))) gl_nil))))
    refine seq_cat (n := 25) (m := 4) rfl e4 k4 hl4 (by decide) ?g5 fun q5 vs5 G5 s5 e5 k5 hl5 => ?_
    case g5 => exact (gl_cons (ev_c (good_of (by decide +kernel))) (gl_cons (ev_c (good_of (by decide +kernel))) (gl_cons (ev_c (good_of (by decide +kernel))) (gl_cons (ev_c (good_of (by decide +kernel))) gl_nil))))
    refine seq_cat (n := 29) (m := 1) rfl e5 k5 hl5 (by decide) ?g6 fun q6 vs6 G6 s6 e6 k6 hl6 => ?_
    case g6 => exact (gl_cons (ev_c (good_of (by decide +kernel))) gl_nil)
    have tE : Same H1 G6 := ((((((t0.trans s1).trans s2).trans s3).trans s4).trans s5).trans s6)
    refine ⟨_, rfl, _, rfl, p, q6, vs6, b, rfl, P1.same tE, .inl (SqL.of e6), fun e => by rw [e] at hl6; simp at hl6, by rw [hl6]; decide, fun x i H2 hx P2 B2 => ?_⟩
    obtain ⟨a, zz, c, rfl, gd, ea⟩ := k6 x (List.mem_of_getElem? hx)
    obtain ⟨kvs, hk⟩ := (P1.same tE).there
    exact k a zz c H2 gd (B2.keep hk ea (by intro z; cases z)) P2 ((b1.trans (But.of_same tE)).trans B2)
end

end Y
set_option Elab.async false
set_option linter.all false
set_option maxRecDepth 100000
set_option maxHeartbeats 1000000
namespace Y
open PySem L2 TL
open PySem.StrLaws (replL replL_nil replL_hit replL_miss replace_list)
theorem repl_free {z l r : List Nat} (h : 32 ∉ l) : replL [32] z (l ++ r) = l ++ replL [32] z r := by
  induction l with
  | nil => rfl
  | cons c l ih =>
    rw [List.cons_append, replL_miss (by
      intro q
      have : c = 32 := by simpa using q
      exact h (by rw [this]; exact List.mem_cons_self)), ih (fun m => h (List.mem_cons_of_mem _ m)), List.cons_append]
theorem repl_sp {z r : List Nat} : replL [32] z (32 :: r) = z ++ replL [32] z r := by
  rw [replL_hit (by decide) (by simp)]
  rfl
theorem rep_tl (n : Nat) : tl (repS " " n) = M3.sp n := by
  rw [tl_rep, space_tl]
  induction n with
  | zero => rfl
  | succ n ih => rw [List.replicate_succ, List.flatten_cons, ih]; rfl
/-- a text in its four words -/
structure Words (t y o w z : Str) : Prop where
  hy : M3.isName (tl y) = true
  ho : M3.isName (tl o) = true
  hz : M3.isName (tl z) = true
  hw : M3.isKind (tl w)
  he : tl t = M3.plain (tl y) (tl o) (tl z) (tl w)
section
variable {t y o w z : Str}
theorem Words.lens (h : Words t y o w z) : y.length ≤ 12 ∧ o.length ≤ 12 ∧ w.length ≤ 5 ∧ z.length ≤ 12 := by
  refine ⟨?_, ?_, ?_, ?_⟩
  · rw [len_tl]; exact (M3.isName_run h.hy).2.2
  · rw [len_tl]; exact (M3.isName_run h.ho).2.2
  · rw [len_tl]; rcases h.hw with e | e <;> rw [e] <;> decide
  · rw [len_tl]; exact (M3.isName_run h.hz).2.2
theorem Words.len (h : Words t y o w z) : 6 ≤ t.length ∧ t.length ≤ 44 := by
  obtain ⟨a, b, c, d⟩ := h.lens
  have y1 := (M3.isName_run h.hy).2.1
  have o1 := (M3.isName_run h.ho).2.1
  have z1 := (M3.isName_run h.hz).2.1
  have e := congrArg List.length h.he
  simp only [M3.plain, List.length_append, M3.sp_len, ← len_tl] at e y1 o1 z1
  have w1 : 1 ≤ w.length := by rw [len_tl]; rcases h.hw with e | e <;> rw [e] <;> decide
  omega
theorem Words.right (h : Words t y o w z) : M3.promiseOf (tl t) = .ok (tl y, tl w, tl o, tl z) := by
  have := M3.promise_ok (a := 0) (b := 1) (e := 0) h.hy h.ho h.hz h.hw (Nat.le_refl 1)
  rw [h.he]
  simpa only [M3.sp0, List.nil_append, List.append_nil, M3.plain] using this
theorem Words.loose (h : Words t y o w z) {a b e : Nat} (hb : 1 ≤ b) : M3.promiseOf (M3.sp a ++ (tl (Txt.replace t " " (repS " " b)) ++ M3.sp e)) = .ok (tl y, tl w, tl o, tl z) := by
  have := M3.promise_ok (a := a) (b := b) (e := e) h.hy h.ho h.hz h.hw hb
  have r : tl (Txt.replace t " " (repS " " b)) = tl y ++ (M3.sp b ++ (tl o ++ (M3.sp b ++ (tl w ++ (M3.sp b ++ tl z))))) := by
    show (Txt.replace t " " (repS " " b)).cps.toList = _
    rw [replace_list (by decide +kernel)]
    show replL (tl " ") (tl (repS " " b)) (tl t) = _
    rw [space_tl, rep_tl, h.he]
    have s1 : ∀ r, M3.sp 1 ++ r = 32 :: r := fun r => rfl
    unfold M3.plain
    rw [s1, s1, s1, repl_free (M3.no32 (M3.isName_run h.hy).1), repl_sp, repl_free (M3.no32 (M3.isName_run h.ho).1), repl_sp, repl_free (M3.no32 (M3.kind_run h.hw)), repl_sp]
    have := repl_free (z := M3.sp b) (r := []) (M3.no32 (M3.isName_run h.hz).1)
    rw [List.append_nil, replL_nil, List.append_nil] at this
    rw [this]
  rw [r]
  simpa only [List.append_assoc] using this
/-- a space in the two signs around a -/
theorem count_sp {x : Str} (h : 0 < Txt.count x " ") : 32 ∈ tl x := by
  have e : Txt.count x " " = ((Builtin.Str.occurrences x " " 0 x.length (x.length + 1)).length : Nat) := rfl
  rw [e] at h
  obtain ⟨i, hi⟩ : ∃ i, i ∈ Builtin.Str.occurrences x " " 0 x.length (x.length + 1) := by
    cases q : Builtin.Str.occurrences x " " 0 x.length (x.length + 1) with
    | nil => rw [q] at h; simp at h
    | cons a r => exact ⟨a, List.mem_cons_self⟩
  have hs := (PySem.StrLaws.occ_spec x " " 0 x.length (x.length + 1) i hi).2
  rw [PySem.StrLaws.subAt_eq] at hs
  have hs' : ((tl x).drop i).take (" " : Str).length = tl (" " : Str) := eq_of_beq hs
  rw [space_tl, len_sp1] at hs'
  have m : 32 ∈ ((tl x).drop i).take 1 := by rw [hs']; exact List.mem_cons_self
  exact List.mem_of_mem_drop (List.mem_of_mem_take m)
theorem around {t : Str} {a : Nat} (ha : 1 ≤ a) (hn : a ≤ t.length) (h : 32 ∈ tl (cutS t (some ((a : Int) - 1)) (some ((a : Int) + 1)))) : (tl t)[a]? = some 32 ∨ (1 ≤ a ∧ (tl t)[a - 1]? = some 32) := by
  have e1 : (a : Int) - 1 = ((a - 1 : Nat) : Int) := by omega
  have e2 : (a : Int) + 1 = ((a + 1 : Nat) : Int) := by omega
  have e : tl (cutS t (some ((a : Int) - 1)) (some ((a : Int) + 1))) = ((tl t).drop (a - 1)).take (min (a + 1) t.length - (a - 1)) := by
    rw [e1, e2]
    show (List.take (HT.sIx t.length t.length (some ((a + 1 : Nat) : Int)) - HT.sIx t.length 0 (some ((a - 1 : Nat) : Int))) (List.drop (HT.sIx t.length 0 (some ((a - 1 : Nat) : Int))) t.cps.toList)) = _
    rw [HT.sIx_nat, HT.sIx_nat, Nat.min_eq_left (show a - 1 ≤ t.length by omega)]
  rw [e] at h
  obtain ⟨i, hi⟩ := List.getElem?_of_mem h
  rw [List.getElem?_take] at hi
  split at hi
  · rename_i hlt
    rw [List.getElem?_drop] at hi
    have : i = 0 ∨ i = 1 := by omega
    rcases this with rfl | rfl
    · exact .inr ⟨ha, hi⟩
    · left
      rwa [show a - 1 + 1 = a by omega] at hi
  · cases hi
theorem cut_take {t : Str} {k : Nat} : cutS t none (some (k : Int)) = mk ((tl t).take k) := ext_tl cut_to
theorem cut_drop {t : Str} {k : Nat} (hk : k ≤ t.length) : cutS t (some (k : Int)) none = mk ((tl t).drop k) := by
  refine ext_tl ?_
  show (List.take (HT.sIx t.length t.length none - HT.sIx t.length 0 (some (k : Int))) (List.drop (HT.sIx t.length 0 (some (k : Int))) t.cps.toList)) = (tl t).drop k
  rw [HT.sIx_nat, HT.sIx_none, Nat.min_eq_left hk, List.take_of_length_le (by rw [List.length_drop, len_cps]; exact Nat.le_refl _)]
/-! ### data that are equal to themselves -/
theorem dp4 {K : PySem.W.Frag} {H : Hp} {p : Addr} {a b c d : Str} (h : H p = some (.tup [.str a, .str b, .str c, .str d])) : Dp K H (.ref p) (.tuple [.str a, .str b, .str c, .str d]) :=
  .tup (SqT.of h) (.cons (.str a) (.cons (.str b) (.cons (.str c) (.cons (.str d) .nil))))
theorem strOk_run {x : Str} (h : ∀ c ∈ tl x, c ∈ M3.runS) : PyData.strOk x = true := by
  show x.cps.all (· < 0x110000) = true
  rw [Array.all_eq_true_iff_forall_mem]
  intro c hc
  have := h c (by simpa [tl] using hc)
  have b : ∀ c ∈ M3.runS, c < 0x110000 := by decide
  exact decide_eq_true (b c this)
theorem shaped4 {a b c d : Str} (ha : PyData.strOk a = true) (hb : PyData.strOk b = true) (hc : PyData.strOk c = true) (hd : PyData.strOk d = true) : SeqAt.shaped (.tuple [.str a, .str b, .str c, .str d]) = true := by
  have e1 : PyData.canLay0 (.tuple [.str a, .str b, .str c, .str d]) = true := by
    simp only [PyData.canLay0, PyData.canLayAll0, ha, hb, hc, hd, Bool.and_self]
  have e2 : decide (PyData.depth (.tuple [.str a, .str b, .str c, .str d]) ≤ 64) = true := by
    simp [PyData.depth, PyData.depthAll]
  unfold SeqAt.shaped
  rw [e1, e2]
  rfl
theorem eqv4 {a b c d : Str} (h : SeqAt.shaped (.tuple [.str a, .str b, .str c, .str d]) = true) : PyData.eqv (.tuple [.str a, .str b, .str c, .str d]) (.tuple [.str a, .str b, .str c, .str d]) = true :=
  SeqAt.eqv_refl _ (SeqAt.canLay_of_shaped h)
theorem Words.shaped (h : Words t y o w z) : SeqAt.shaped (.tuple [.str y, .str w, .str o, .str z]) = true :=
  shaped4 (strOk_run (M3.isName_run h.hy).1) (strOk_run (M3.kind_run h.hw)) (strOk_run (M3.isName_run h.ho).1) (strOk_run (M3.isName_run h.hz).1)
end
end Y
set_option Elab.async false
set_option linter.all false
set_option maxRecDepth 100000
set_option maxHeartbeats 4000000
namespace Y
open PySem L2 TL
def spLaw (K : PySem.W.Frag) : Sp := fun vs H Q _ => ∃ (a : Addr) (ns : List Int), vs = [.ref a] ∧ SqL K H a (ns.map V.int) ∧ ns.length ≤ 63 ∧ ∀ H', Q (.bl true) H'
def zK : List Str := ["to", "never"]
theorem kinds : ∀ a ∈ zK, M3.isKind (tl a) := by
  have h : tl ("to" : Str) = M3.wTo ∧ tl ("never" : Str) = M3.wNever := by decide +kernel
  intro a ha
  rcases List.mem_cons.mp ha with rfl | ha
  · exact .inl h.1
  · rcases List.mem_cons.mp ha with rfl | ha
    · exact .inr h.2
    · cases ha
def zO : List Str := ["?", "-", "A", "."]
theorem odds : ∀ a ∈ zO, ∃ c, tl a = [c] ∧ M3.Odd c := by
  have h : tl ("?" : Str) = [63] ∧ tl ("-" : Str) = [45] ∧ tl ("A" : Str) = [65] ∧ tl ("." : Str) = [46] := by decide +kernel
  have o : ∀ c ∈ [63, 45, 65, 46], M3.Odd c := fun c hc => by
    have : c ∉ M3.runS ∧ c ≠ 32 := by
      have q : ∀ c ∈ [63, 45, 65, 46], c ∉ M3.runS ∧ c ≠ 32 := by decide
      exact q c hc
    exact this
  intro a ha
  simp only [zO, List.mem_cons, List.not_mem_nil, or_false] at ha
  rcases ha with rfl | rfl | rfl | rfl
  · exact ⟨_, h.1, o _ (by decide)⟩
  · exact ⟨_, h.2.1, o _ (by decide)⟩
  · exact ⟨_, h.2.2.1, o _ (by decide)⟩
  · exact ⟨_, h.2.2.2, o _ (by decide)⟩
section
variable {P : Program} {w : World} {K : PySem.W.Frag} {mg : Str → Option Value} {base : Heap} {C CY fDraw fPick fPromise fPText fPen fWhy fLName fWrong : Addr}
theorem scLaw : FnScope ["_law_script", "_law_pen_here", "_law_lap", "_law_yard", "_law_one", "_law_other", "_law_kind", "_law_plain", "_law_loose", "_law_at", "_law_wrong_here", "_law_column", "_law_pad"] ["_law_script"] (defScope sLaw) :=
  ⟨rfl, rfl, rfl, by decide +kernel, rfl, by decide +kernel, by decide +kernel⟩
theorem ok_law {f : Addr} {fd fdD fdK fdP fdT fdPen fdY fdN fdW : FuncData} (F : Fun K "law" "law" sLaw f fd) (T : TL3 K mg C CY fDraw fPick fPromise fPText fPen fWhy fLName fWrong)
    (GD : FnOk P w K mg base CX0 1 fDraw fdD ["_law_pen_here", "_law_many"] spDraw) (FD : Fun K "_law_draw" "_law_draw" sDraw fDraw fdD) (bD : Binds K fdD ["_law_pen_here", "_law_many"] [])
    (GK : FnOk P w K mg base CX0 2 fPick fdK ["_law_pen_here", "_law_some"] (spPick K)) (FK : Fun K "_law_pick" "_law_pick" sPick fPick fdK) (bK : Binds K fdK ["_law_pen_here", "_law_some"] [])
    (GP : FnOk P w K mg base (L2.CX P w) 4 fPromise fdP ["text"] (spPromise K C)) (FP : Fun K "promise_of" "promise_of" sPromise fPromise fdP) (bP : Binds K fdP ["text"] [])
    (GT : FnOk P w K mg base CX0 1 fPText fdT ["promise"] (spPText K)) (FT : Fun K "promise_text" "promise_text" sPText fPText fdT) (bT : Binds K fdT ["promise"] [])
    (GPen : FnOk P w K mg base CX0 1 fPen fdPen ["_law_script"] (spPen K)) (FPen : Fun K "_law_pen" "_law_pen" sPen fPen fdPen) (bPen : Binds K fdPen ["_law_script"] [])
    (GY : FnOk P w K mg base CX0 5 fWhy fdY ["_law_text"] (spWhy K)) (FY : Fun K "_law_why" "_law_why" sWhy fWhy fdY) (bY : Binds K fdY ["_law_text"] [])
    (GN : FnOk P w K mg base CX0 3 fLName fdN ["_law_pen_here"] spLName) (FN : Fun K "_law_name" "_law_name" sLName fLName fdN) (bN : Binds K fdN ["_law_pen_here"] [])
    (GW : FnOk P w K mg base CX0 3 fWrong fdW ["_law_pen_here"] spWrong) (FW : Fun K "_law_wrong" "_law_wrong" sWrong fWrong fdW) (bW : Binds K fdW ["_law_pen_here"] []) :
    FnOk P w K mg base CX0 6 f fd ["_law_script"] (spLaw K) := by
  refine F.ok scLaw (fun vs H Q E h => ?_) (fun cdv A outer s H vs Q E hr h => ?_)
  · obtain ⟨a, ns, rfl, _⟩ := h
    rfl
  · obtain ⟨a, ns, rfl, hS, hlen, k⟩ := h
    have hr1 : Room 1 _ := hr.mono (by decide)
    have hr2 : Room 2 _ := hr.mono (by decide)
    have hr3 : Room 3 _ := hr.mono (by decide)
    have hr4 : Room 4 _ := hr.mono (by decide)
    have hu := hr.units
    refine ⟨_, pss_cons (ps_set (i := 1) scLaw.nd rfl (Or.inl rfl) (pe_call GPen hr1 (by rfl) T.gPen FPen.kp bPen .nil pass0 (pa_cons (pv 0) pa_nil)))
      (pss_cons (ps_for PassesOwn.never rfl (pi_range1 (by rfl) T.range (pa_cons pe_int pa_nil)) (pg_name (i := 2) scLaw.nd rfl (Or.inl rfl))
        (pss_cons (ps_par3 (i := 3) (j := 4) (l := 5) rfl scLaw.nd rfl rfl rfl (by decide) (by decide) (by decide) rfl rfl rfl
            (pa_cons (pe_call GN hr3 (by rfl) T.gLName FN.kp bN .nil pass0 (pa_cons (pv 1) pa_nil)) (pa_cons (pe_call GN hr3 (by rfl) T.gLName FN.kp bN .nil pass0 (pa_cons (pv 1) pa_nil)) (pa_cons (pe_call GN hr3 (by rfl) T.gLName FN.kp bN .nil pass0 (pa_cons (pv 1) pa_nil)) pa_nil))) (by rfl))
        (pss_cons (ps_set (i := 6) scLaw.nd rfl (Or.inl rfl) (pe_call GK hr2 (by rfl) T.gPick FK.kp bK .nil pass0 (pa_cons (pv 1) (pa_cons (pe_lst (pa_cons pe_str (pa_cons pe_str pa_nil))) pa_nil))))
        (pss_cons (ps_set (i := 7) scLaw.nd rfl (Or.inl rfl) (pe_op op_add_str (pe_op op_add_str (pe_op op_add_str (pe_op op_add_str (pe_op op_add_str (pe_op op_add_str (pv 3) pe_str) (pv 4)) pe_str) (pv 6)) pe_str) (pv 5)))
        (pss_cons (ps_if (PW.pt (pw_or (pt_cmpR (op_neD hu) (pe_call GP hr4 (by rfl) T.gPromise FP.kp bP .nil passL (pa_cons (pv 7) pa_nil)) (pe_tup (pa_cons (pv 3) (pa_cons (pv 6) (pa_cons (pv 4) (pa_cons (pv 5) pa_nil))))) (nomark _))
            (pw_or1 (pt_cmpR op_ne (pe_call GT hr1 (by rfl) T.gPText FT.kp bT .nil pass0 (pa_cons (pe_tup (pa_cons (pv 3) (pa_cons (pv 6) (pa_cons (pv 4) (pa_cons (pv 5) pa_nil))))) pa_nil)) (pv 7) (nomark _))))) (pss_one (ps_ret pe_bl)) pss_nil)
        (pss_cons (ps_set (i := 8) scLaw.nd rfl (Or.inl rfl) (pe_op op_add_str (pe_opG op_add_str (peg_op op_mul_str peg_str (pe_call GD hr1 (by rfl) T.p.gDraw FD.kp bD .nil pass0 (pa_cons (pv 1) (pa_cons pe_int pa_nil))))
            (pet_replM T.stat (pv 7) (pe_op op_add pe_int (pe_call GD hr1 (by rfl) T.p.gDraw FD.kp bD .nil pass0 (pa_cons (pv 1) (pa_cons pe_int pa_nil)))))) (pe_op op_mul_str pe_str (pe_call GD hr1 (by rfl) T.p.gDraw FD.kp bD .nil pass0 (pa_cons (pv 1) (pa_cons pe_int pa_nil))))))
        (pss_cons (ps_if (pt_cmpR (op_neD hu) (pe_call GP hr4 (by rfl) T.gPromise FP.kp bP .nil passL (pa_cons (pv 8) pa_nil)) (pe_tup (pa_cons (pv 3) (pa_cons (pv 6) (pa_cons (pv 4) (pa_cons (pv 5) pa_nil))))) (nomark _)) (pss_one (ps_ret pe_bl)) pss_nil)
        (pss_cons (ps_set (i := 9) scLaw.nd rfl (Or.inl rfl) (pe_call GD hr1 (by rfl) T.p.gDraw FD.kp bD .nil pass0 (pa_cons (pv 1) (pa_cons (pe_op op_add (pe_callB call_len_str (by rfl) T.len PySem.boot_len (pa_cons (pv 7) pa_nil)) pe_int) pa_nil))))
        (pss_one (ps_if (PW.pt (pw_or (pt_cmpR op_gt (pe_m1 PySem.F.slot_str_count PySem.F.type_str_count mt_count (pe_slice sl_str (pv 7) (po_some (pe_op op_sub (pv 9) pe_int)) (po_some (pe_op op_add (pv 9) pe_int))) pe_str) pe_int (nomark _))
            (pw_or1 (pt_cmpR op_in_seq (pv 9) (pe_lst (pa_cons pe_int (pa_cons (pe_callB call_len_str (by rfl) T.len PySem.boot_len (pa_cons (pv 7) pa_nil)) pa_nil))) (by rfl)))))
          (pss_one (ps_if (pt_cmpR op_ne (pe_call GY hr (by rfl) T.gWhy FY.kp bY .nil pass0 (pa_cons (pe_op op_add_str (pe_op op_add_str (pe_slice sl_str (pv 7) po_none (po_some (pv 9))) (pe_call GK hr2 (by rfl) T.gPick FK.kp bK .nil pass0 (pa_cons (pv 1) (pa_cons (pe_lst (pa_cons pe_str (pa_cons pe_str (pa_cons pe_str (pa_cons pe_str pa_nil))))) pa_nil))))
              (pe_slice sl_str (pv 7) (po_some (pv 9)) po_none)) pa_nil)) (pe_op op_add (pv 9) pe_int) (nomark _)) (pss_one (ps_ret pe_bl)) pss_nil)) pss_nil))))))))))
      (pss_cons (ps_asg (pe_call GW hr3 (by rfl) T.gWrong FW.kp bW .nil pass0 (pa_cons (pv 1) pa_nil)) (pg_tup rfl (pgs_cons (pg_name (i := 10) scLaw.nd rfl (Or.inl rfl)) (pgs_cons (pg_name (i := 11) scLaw.nd rfl (Or.inl rfl)) pgs_nil))))
      (pss_cons (ps_set (i := 12) scLaw.nd rfl (Or.inl rfl) (pe_call GD hr1 (by rfl) T.p.gDraw FD.kp bD .nil pass0 (pa_cons (pv 1) (pa_cons pe_int pa_nil))))
      (pss_cons (ps_if (pt_cmpR op_ne (pe_call GY hr (by rfl) T.gWhy FY.kp bY .nil pass0 (pa_cons (pe_op op_add_str (pe_op op_mul_str pe_str (pv 12)) (pv 10)) pa_nil)) (pe_op op_add (pv 11) (pv 12)) (nomark _)) (pss_one (ps_ret pe_bl)) pss_nil)
      (pss_one (ps_ret (pe_cmpR op_eq (pe_call GY hr (by rfl) T.gWhy FY.kp bY .nil pass0 (pa_cons (pe_call GK hr2 (by rfl) T.gPick FK.kp bK .nil pass0 (pa_cons (pv 1) (pa_cons (pe_lst (pa_cons pe_non (pa_cons pe_int (pa_cons (pe_lst (pa_cons pe_str pa_nil)) (pa_cons pe_bl pa_nil))))) pa_nil))) pa_nil)) pe_int (nomark _)))))))), ?_⟩
    have sz : ∀ n, n ≤ 10000 → n ≤ sizeLine := fun n h => Nat.le_trans h (by decide)
    have l1 := len_sp1
    -- the pen
    refine ⟨_, rfl, a, ns, rfl, hS, hlen, fun p H1 P1 s1 hp => ?_⟩
    -- four laps
    refine ⟨4, rfl, by decide, by decide, ?_⟩
    refine for_range (lo := 0) (n := 4) (fun i σ H' => ∃ v2 v3 v4 v5 v6 v7 v8 v9 : Option V, σ = [some (.ref a), some (.ref p), v2, v3, v4, v5, v6, v7, v8, v9, none, none, none] ∧ Pen H' p (1000 - 15 * i))
      ⟨none, none, none, none, none, none, none, none, rfl, P1.less (by decide)⟩ ?_ ?_
    · rintro i σ H' hi ⟨v2, v3, v4, v5, v6, v7, v8, v9, rfl, Pi⟩
      obtain ⟨b, hb⟩ : ∃ b, 1000 - 15 * i = b + 15 := ⟨1000 - 15 * i - 15, by omega⟩
      rw [hb] at Pi
      have hb' : 1000 - 15 * (i + 1) = b := by omega
      -- three names
      refine ⟨_, rfl, p, b + 12, rfl, Pi, fun y Ha ny Pa Ba => ?_⟩
      refine ⟨_, rfl, p, b + 9, rfl, Pa, fun o Hb no Pb Bb => ?_⟩
      refine ⟨_, rfl, p, b + 6, rfl, Pb, fun z Hc nz Pc Bc => ?_⟩
      refine ⟨_, _, _, rfl, ?_⟩
      -- the word
      refine ⟨_, rfl, (by show 2 ≤ sizeLine; decide), fun lk nk => ?_⟩
      refine ⟨p, lk, zK.map V.str, b + 5, rfl, Pc.same (Same.new nk), .inl (SqL.of upd_same), by decide, by decide, fun x ix Hd hx Pd Bd => ?_⟩
      obtain ⟨w', mw, rfl⟩ := strs_get hx
      have kw := kinds _ mw
      -- the plain text
      have ly : y.length ≤ 12 := by rw [len_tl]; exact (M3.isName_run ny).2.2
      have lo : o.length ≤ 12 := by rw [len_tl]; exact (M3.isName_run no).2.2
      have lz : z.length ≤ 12 := by rw [len_tl]; exact (M3.isName_run nz).2.2
      have lw : w'.length ≤ 5 := by rw [len_tl]; rcases kw with e | e <;> rw [e] <;> decide
      refine ⟨_, rfl, _, _, rfl, rfl, sz _ (by omega), _, rfl, _, _, rfl, rfl, sz _ (by simp only [len_add]; omega), _, _, rfl, rfl, sz _ (by simp only [len_add]; omega), _, rfl, _, _, rfl, rfl, sz _ (by simp only [len_add]; omega), _, _, rfl, rfl, sz _ (by simp only [len_add]; omega), _, rfl, _, _, rfl, rfl, sz _ (by simp only [len_add]; omega), ?_⟩
      generalize hpl : (y ++ " " ++ o ++ " " ++ w' ++ " " ++ z : Str) = pl
      have W : Words pl y o w' z := ⟨ny, no, nz, kw, by rw [← hpl]; simp only [tl_add, space_tl, List.append_assoc]; rfl⟩
      have lp := W.len
      have wshape := W.shaped
      -- it is read, and told
      refine ⟨_, rfl, _, rfl, .inr ⟨pl, rfl, by omega, fun y1 w1 o1 z1 q1 p1 H2 s2 h2 => ?_, fun c q1 => by rw [W.right] at q1; cases q1⟩⟩
      rw [W.right] at q1
      cases q1
      rw [mk_of_tl, mk_of_tl, mk_of_tl, mk_of_tl] at h2
      refine ⟨_, rfl, _, rfl, _, rfl, _, rfl, (by show 4 ≤ sizeLine; decide), fun t1 n1 => ?_⟩
      refine ⟨_, _, dp4 ((Same.new n1) _ _ h2), dp4 upd_same, wshape, wshape, _, rfl, ?_⟩
      refine ifT (fun h => by rw [eqv4 wshape] at h; cases h) (fun _ => ?_)
      refine ⟨_, rfl, _, rfl, _, rfl, _, rfl, (by show 4 ≤ sizeLine; decide), fun t2 n2 => ?_⟩
      refine ⟨t2, y, w', o, z, rfl, SqT.of upd_same, by omega, by omega, by omega, by omega, ?_⟩
      refine ⟨_, rfl, rfl, _, rfl, ?_⟩
      have told : mk (tl y ++ ([32] ++ (tl o ++ ([32] ++ (tl w' ++ ([32] ++ tl z)))))) = pl := ext_tl (by rw [tl_of_mk, W.he]; rfl)
      rw [told]
      refine ifT (fun h => by rw [decide_eq_true rfl] at h; cases h) (fun _ => ?_)
      -- the loose text
      refine ⟨_, rfl, p, 3, b + 4, rfl, ((Pd.same s2).same (Same.new n1)).same (Same.new n2), by decide, by decide, fun g1 Hf g10 g11 Pf Bf => ?_⟩
      refine ⟨_, _, rfl, rfl, g10, by omega, by omega, ?_⟩
      refine ⟨_, rfl, pl, rfl, _, rfl, p, 3, b + 3, rfl, Pf, by decide, by decide, fun g2 Hg g20 g21 Pg Bg => ?_⟩
      refine ⟨_, _, rfl, rfl, _, rfl, by omega, by omega, by omega, ?_, ?_⟩
      · rw [len_rep, l1]
        have : (pl.length + 1) * ((1 + g2).toNat * 1) ≤ 45 * 3 := Nat.mul_le_mul (by omega) (by omega)
        omega
      have lr : (Txt.replace pl " " (repS " " (1 + g2).toNat)).length ≤ 200 := by
        have h1 := TK.replace_len pl " " (repS " " (1 + g2).toNat)
        rw [len_rep, l1] at h1
        have : (pl.length + 1) * ((1 + g2).toNat * 1) ≤ 45 * 3 := Nat.mul_le_mul (by omega) (by omega)
        omega
      have la : (repS " " g1.toNat).length ≤ 3 := by rw [len_rep, l1]; omega
      refine ⟨_, _, rfl, rfl, sz _ (by omega), ?_⟩
      refine ⟨_, rfl, p, 3, b + 2, rfl, Pg, by decide, by decide, fun g3 Hh g30 g31 Ph Bh => ?_⟩
      refine ⟨_, _, rfl, rfl, g30, by omega, by omega, ?_⟩
      have le : (repS " " g3.toNat).length ≤ 3 := by rw [len_rep, l1]; omega
      refine ⟨_, _, rfl, rfl, sz _ (by rw [len_add]; omega), ?_⟩
      generalize hlo : (repS " " g1.toNat ++ Txt.replace pl " " (repS " " (1 + g2).toNat) ++ repS " " g3.toNat : Str) = lse
      have lq : M3.promiseOf (tl lse) = .ok (tl y, tl w', tl o, tl z) := by
        rw [← hlo, tl_add, tl_add, rep_tl, rep_tl, List.append_assoc]
        exact W.loose (by omega)
      have ll : lse.length ≤ 1000 := by rw [← hlo, len_add, len_add]; omega
      refine ⟨_, rfl, _, rfl, .inr ⟨lse, rfl, ll, fun y1 w1 o1 z1 q1 p3 H3 s3 h3 => ?_, fun c q1 => by rw [lq] at q1; cases q1⟩⟩
      rw [lq] at q1
      cases q1
      rw [mk_of_tl, mk_of_tl, mk_of_tl, mk_of_tl] at h3
      refine ⟨_, rfl, _, rfl, _, rfl, _, rfl, (by show 4 ≤ sizeLine; decide), fun t3 n3 => ?_⟩
      refine ⟨_, _, dp4 ((Same.new n3) _ _ h3), dp4 upd_same, wshape, wshape, _, rfl, ?_⟩
      refine ifT (fun h => by rw [eqv4 wshape] at h; cases h) (fun _ => ?_)
      -- where a sign is put in
      refine ⟨_, rfl, _, rfl, _, rfl, sz _ (by omega), _, _, rfl, rfl, ?_⟩
      refine ⟨p, _, b + 1, rfl, (Ph.same s3).same (Same.new n3), by omega, by omega, fun g4 Hj g40 g41 Pj Bj => ?_⟩
      obtain ⟨at', rfl⟩ : ∃ at' : Nat, g4 = (at' : Int) := ⟨g4.toNat, by omega⟩
      have hat : at' ≤ pl.length := by omega
      have put : (0 < Txt.count (cutS pl (some ((at' : Int) - 1)) (some ((at' : Int) + 1))) " " ∨ at' = 0 ∨ at' = pl.length) → ∀ c, M3.Odd c → M3.promiseOf ((tl pl).take at' ++ (c :: (tl pl).drop at')) = .error (at' + 1) := fun hc c oc => by
        rw [W.he]
        refine M3.put_in ny no nz kw oc (by rw [← W.he, ← len_tl]; exact hat) ?_
        rw [← W.he, ← len_tl]
        rcases hc with hc | hc | hc
        · by_cases z0 : at' = 0
          · exact .inl z0
          · exact .inr (.inr (around (by omega) hat (count_sp hc)))
        · exact .inl hc
        · exact .inr (.inl hc)
      -- is a space beside it?
      refine ⟨_, rfl, _, rfl, _, _, rfl, rfl, _, rfl, _, rfl, _, _, rfl, rfl, _, rfl, pl, rfl, sz _ (by omega), ⟨_, rfl⟩, _, _, rfl, rfl, _, _, rfl, rfl, _, rfl, ?_⟩
      have body : (0 < Txt.count (cutS pl (some ((at' : Int) - 1)) (some ((at' : Int) + 1))) " " ∨ at' = 0 ∨ at' = pl.length) → ∀ (H' : Hp) (z0 : Str), z0 ∈ zO →
          whyV (mk ((tl pl).take at') ++ z0 ++ mk ((tl pl).drop at')) = .int ((at' : Int) + 1) := fun hc H' z0 mz => by
        obtain ⟨c, ec, oc⟩ := odds _ mz
        have e : M3.why (tl (mk ((tl pl).take at') ++ z0 ++ mk ((tl pl).drop at'))) = some (at' + 1) := by
          rw [tl_add, tl_add, tl_of_mk, tl_of_mk, ec, List.append_assoc]
          unfold M3.why
          show (match M3.promiseOf ((tl pl).take at' ++ (c :: (tl pl).drop at')) with | .ok _ => none | .error c => some c) = some (at' + 1)
          rw [put hc c oc]
        unfold whyV
        rw [e]
        rfl
      have lt1 : (mk ((tl pl).take at')).length ≤ 100 := by rw [len_tl, tl_of_mk, List.length_take, ← len_tl]; omega
      have lt2 : (mk ((tl pl).drop at')).length ≤ 100 := by rw [len_tl, tl_of_mk, List.length_drop, ← len_tl]; omega
      have lO : ∀ z0 ∈ zO, z0.length ≤ 10 := by decide +kernel
      refine ifT (fun hc => ?_) (fun hc => ?_)
      · have hc' : 0 < Txt.count (cutS pl (some ((at' : Int) - 1)) (some ((at' : Int) + 1))) " " := of_decide_eq_true hc
        refine ⟨_, rfl, _, rfl, _, rfl, pl, rfl, sz _ (by omega), ?_⟩
        rw [cut_take]
        refine ⟨_, rfl, (by show 4 ≤ sizeLine; decide), fun lq nq => ?_⟩
        refine ⟨p, lq, zO.map V.str, b, rfl, Pj.same (Same.new nq), .inl (SqL.of upd_same), by decide, by decide, fun x ix Hk hx Pk Bk => ?_⟩
        obtain ⟨z0, mz, rfl⟩ := strs_get hx
        have l0 := lO _ mz
        refine ⟨_, _, rfl, rfl, sz _ (by omega), _, rfl, _, rfl, _, rfl, pl, rfl, sz _ (by omega), ?_⟩
        rw [cut_drop hat]
        refine ⟨_, _, rfl, rfl, sz _ (by rw [len_add]; omega), _, rfl, .inr ⟨_, rfl, by rw [len_add, len_add]; omega, fun H9 s9 => ?_⟩⟩
        rw [body (.inl hc') H9 _ mz]
        refine ⟨_, rfl, _, _, rfl, rfl, rfl, _, rfl, ?_⟩
        refine ifT (fun h => by rw [decide_eq_true rfl] at h; cases h) (fun _ => ?_)
        exact ⟨_, _, _, _, _, _, _, _, rfl, by rw [hb']; exact Pk.same s9⟩
      · refine ⟨_, rfl, ?_⟩
        refine ⟨_, rfl, pl, rfl, sz _ (by omega), (by show 2 ≤ sizeLine; decide), fun lv nv => ?_⟩
        refine ⟨lv, [.int 0, .int pl.length], rfl, .inl (SqL.of upd_same), rfl, rfl, _, rfl, ?_⟩
        have Pv := Pj.same (Same.new (o := .lst [.int 0, .int pl.length]) nv)
        refine ifT (fun hd => ?_) (fun hd => ?_)
        · have hd' : inV (.int (at' : Int)) [.int 0, .int pl.length] = true := hd
          have hc' : at' = 0 ∨ at' = pl.length := by
            simp only [inV, eqV, List.any_cons, List.any_nil, Bool.or_false, Bool.or_eq_true, beq_iff_eq] at hd'
            omega
          refine ⟨_, rfl, _, rfl, _, rfl, pl, rfl, sz _ (by omega), ?_⟩
          rw [cut_take]
          refine ⟨_, rfl, (by show 4 ≤ sizeLine; decide), fun lq nq => ?_⟩
          refine ⟨p, lq, zO.map V.str, b, rfl, Pv.same (Same.new nq), .inl (SqL.of upd_same), by decide, by decide, fun x ix Hk hx Pk Bk => ?_⟩
          obtain ⟨z0, mz, rfl⟩ := strs_get hx
          have l0 := lO _ mz
          refine ⟨_, _, rfl, rfl, sz _ (by omega), _, rfl, _, rfl, _, rfl, pl, rfl, sz _ (by omega), ?_⟩
          rw [cut_drop hat]
          refine ⟨_, _, rfl, rfl, sz _ (by rw [len_add]; omega), _, rfl, .inr ⟨_, rfl, by rw [len_add, len_add]; omega, fun H9 s9 => ?_⟩⟩
          rw [body (.inr hc') H9 _ mz]
          refine ⟨_, rfl, _, _, rfl, rfl, rfl, _, rfl, ?_⟩
          refine ifT (fun h => by rw [decide_eq_true rfl] at h; cases h) (fun _ => ?_)
          exact ⟨_, _, _, _, _, _, _, _, rfl, by rw [hb']; exact Pk.same s9⟩
        · exact ⟨_, _, _, _, _, _, _, _, rfl, by rw [hb']; exact Pv.less (Nat.le_succ b)⟩
    · rintro σ H' ⟨v2, v3, v4, v5, v6, v7, v8, v9, rfl, P4⟩
      have P5 : Pen H' p (900 + 2) := P4.less (by decide)
      refine ⟨_, rfl, p, 900, rfl, P5, fun q z c H5 gd e5 P5 _ => ?_⟩
      refine ⟨q, _, rfl, SqT.of e5, rfl, _, _, rfl, _, _, rfl, rfl, ?_⟩
      refine ⟨_, rfl, p, 3, 899, rfl, P5, by decide, by decide, fun g H6 g0 g1 P6 _ => ?_⟩
      have lg : (repS " " g.toNat).length ≤ 3 := by rw [len_rep, l1]; omega
      have lz : z.length ≤ 100 := gd.1
      have wg : ∀ H9 : Hp, whyV (repS " " g.toNat ++ z) = .int (c + g) := fun _ => by
        have e := gd.2.2 g.toNat (by omega)
        have c0 := gd.2.1
        unfold whyV
        rw [tl_add, rep_tl, e]
        show V.int ((c.toNat + g.toNat : Nat) : Int) = _
        rw [show ((c.toNat + g.toNat : Nat) : Int) = c + g by omega]
      refine ⟨_, rfl, _, _, rfl, rfl, g0, by omega, by omega, _, rfl, _, _, rfl, rfl, sz _ (by omega), _, rfl, .inr ⟨_, rfl, by rw [len_add]; omega, fun H7 s7 => ?_⟩⟩
      rw [wg H7]
      refine ⟨_, rfl, _, rfl, _, _, rfl, rfl, rfl, _, rfl, ?_⟩
      refine ifT (fun h => by rw [decide_eq_true rfl] at h; cases h) (fun _ => ?_)
      refine ⟨_, rfl, (by show 1 ≤ sizeLine; decide), fun li ni => ⟨(by show 4 ≤ sizeLine; decide), fun lo no => ?_⟩⟩
      have P7 := ((P6.same s7).same (Same.new (o := .lst [.str "y"]) ni)).same (Same.new (o := .lst [.non, .int 5, .ref li, .bl true]) no)
      obtain ⟨kvs, hk⟩ := P7.there
      have el : (upd (upd H7 li (.lst [.str "y"])) lo (.lst [.non, .int 5, .ref li, .bl true])) li = some (.lst [.str "y"]) := Same.new no li _ upd_same
      refine ⟨p, lo, _, 898, rfl, P7, .inl (SqL.of upd_same), (fun e => by cases e), (by show 4 ≤ 1000000; decide), fun x ix H8 hx P8 B8 => ?_⟩
      have el8 := B8.keep hk el (by intro z; cases z)
      have nstr : NoStr K H8 x := by
        have hm := List.mem_of_getElem? hx
        simp only [List.mem_cons, List.not_mem_nil, or_false] at hm
        rcases hm with rfl | rfl | rfl | rfl
        · exact ⟨_, .base .non, by decide +kernel⟩
        · exact ⟨_, .base (.int _), by decide +kernel⟩
        · exact ⟨_, .base (.lst el8), by decide +kernel⟩
        · exact ⟨_, .base (.bl _), by decide +kernel⟩
      refine ⟨_, rfl, .inl ⟨nstr, fun H9 s9 => ?_⟩⟩
      refine ⟨rfl, ?_⟩
      rw [decide_eq_true rfl]
      exact k H9
end
end Y
set_option Elab.async false
set_option linter.all false
set_option maxRecDepth 100000
set_option maxHeartbeats 4000000
namespace Y
open PySem L2 TL
/-- an error of the class at S is what «except S» names -/
theorem exm_self {K : PySem.W.Frag} {S : Addr} (h1 : PySem.W.subIn K (.ref S) (.type "BaseException") = some true) (h2 : PySem.W.isClsIn K S = true) (h3 : PySem.W.typeIn K (.ref S) = some (.type "type")) (h4 : PySem.W.subIn K (.ref S) (.ref S) = some true) :
    PySem.W.exmOne K (.ref S) (.ref S) = some true := by
  have e1 : (PySem.W.subIn K (.ref S) (.type "BaseException") == some true) = true := by rw [h1] <;> rfl
  have e2 : ((PySem.W.clsIn K S).isSome && PySem.W.typeIn K (.ref S) == some (.type "type")) = true := by
    have h2' : (PySem.W.clsIn K S).isSome = true := h2
    rw [h2', h3] <;> rfl
  show (if (PySem.W.subIn K (.ref S) (.type "BaseException") == some true) = true then (if ((PySem.W.clsIn K S).isSome && PySem.W.typeIn K (.ref S) == some (.type "type")) = true then PySem.W.subIn K (.ref S) (.ref S) else none) else none) = some true
  rw [if_pos e1, if_pos e2]
  exact h4
theorem kit_own {K : PySem.W.Frag} {C S : Addr} (h2 : PySem.W.isClsIn K S = true) (h3 : PySem.W.typeIn K (.ref S) = some (.type "type")) (h4 : PySem.W.subIn K (.ref C) (.ref S) = some true) : PySem.W.kitOne K (.ref C) (.ref S) = some true := by
  have e2 : ((PySem.W.clsIn K S).isSome && PySem.W.typeIn K (.ref S) == some (.type "type")) = true := by
    have h2' : (PySem.W.clsIn K S).isSome = true := h2
    rw [h2', h3] <;> rfl
  show (if ((Value.ref C) == (Value.ref S)) = true then some true else (if ((PySem.W.clsIn K S).isSome && PySem.W.typeIn K (.ref S) == some (.type "type")) = true then PySem.W.subIn K (.ref C) (.ref S) else none)) = some true
  rw [if_pos e2, h4, ite_self]
theorem tup_at {K : PySem.W.Frag} {a : Addr} {od : Option Addr} {its : Array Value} {n : Nat} {sl : Array (Option Value)} {xs : List V} (l : K.lookup a = some ⟨.type "tuple", od, .seq its n, sl⟩) (hs : its.size ≤ 1000) (hv : Vals xs its.toList) (H : Hp) : SqT K H a xs :=
  .inr ⟨_, its, n, l, rfl, rfl, Nat.le_trans hs (by decide), hv⟩
theorem all_mk {P : Program} {w : World} {K : PySem.W.Frag} {h : Heap} {mg : Str → Option Value} {fa C CY aW aP f0 f1 f2 f3 f4 f5 f6 f7 f8 f9 f10 f11 f12 f13 f14 f15 f16 : Addr} (X : K.In h) (G : h.Ns mainGlobals mg) (hfa : mg "law" = some (.ref fa))
    {nm q : Str} {N : Addr} {bs : List Value} {sn : List Str} {sub : List Value} {ab : Bool} {col : Option Bool} {dd : Option Addr} {m0 m1 m2 m3 m5 : Option Value} {odW odP : Option Addr} {slW slP : Array (Option Value)} {nW nP : Nat} {gt0 gt1 gt2 p0 p1 w0 w1 w2 w3 w4 w5 w6 w7 w8 : Nat}
    {od0 an0 od1 an1 od2 an2 od3 an3 od4 an4 od5 an5 od6 an6 od7 an7 od8 an8 od9 an9 od10 an10 od11 an11 od12 an12 od13 an13 od14 an14 od15 an15 od16 an16 : Option Addr} {sl0 sl1 sl2 sl3 sl4 sl5 sl6 sl7 sl8 sl9 sl10 sl11 sl12 sl13 sl14 sl15 sl16 : Array (Option Value)} {oc0 kV0 dc0 pm0 cd0 ct0 oc1 kV1 dc1 pm1 cd1 ct1 oc2 kV2 dc2 pm2 cd2 ct2 oc3 kV3 dc3 pm3 cd3 ct3 oc4 kV4 dc4 pm4 cd4 ct4 oc5 kV5 dc5 pm5 cd5 ct5 oc6 kV6 dc6 pm6 cd6 ct6 oc7 kV7 dc7 pm7 cd7 ct7 oc8 kV8 dc8 pm8 cd8 ct8 oc9 kV9 dc9 pm9 cd9 ct9 oc10 kV10 dc10 pm10 cd10 ct10 oc11 kV11 dc11 pm11 cd11 ct11 oc12 kV12 dc12 pm12 cd12 ct12 oc13 kV13 dc13 pm13 cd13 ct13 oc14 kV14 dc14 pm14 cd14 ct14 oc15 kV15 dc15 pm15 cd15 ct15 oc16 kV16 dc16 pm16 cd16 ct16 : Value}
    (aY : PySem.W.nsIn K mainGlobals "YardError" = some (some (.ref CY)))
    (aC : PySem.W.nsIn K mainGlobals "BadText" = some (some (.ref C)))
    (xL : K.lookup C = some (excClassObj nm q C N bs [.ref CY, .type "ValueError", .type "Exception", .type "BaseException", .type "object"] true sn sub ab col dd m0 m1 m2 m3 m5 "ValueError.__new__"))
    (sa : PySem.W.findIn K (.ref C) "__setattr__" = some (some (.builtin "object.__setattr__")))
    (ga : PySem.W.findIn K (.ref C) "__getattribute__" = some (some (.builtin "BaseException.__getattribute__")))
    (gg : PySem.W.findIn K (.ref C) "__getattr__" = some none)
    (nC : PySem.W.findIn K (.ref C) "column" = some none)
    (kC : PySem.W.keepIn K (.ref C) = true)
    (eC : PySem.W.subIn K (.ref C) (.type "BaseException") = some true)
    (tC : PySem.W.typeIn K (.ref C) = some (.type "type"))
    (hC : PySem.W.hasDictIn K C = true)
    (iC : PySem.W.isClsIn K C = true)
    (sC : PySem.W.subIn K (.ref C) (.ref C) = some true)
    (sY : PySem.W.subIn K (.ref C) (.ref CY) = some true)
    (tY : PySem.W.typeIn K (.ref CY) = some (.type "type"))
    (iY : PySem.W.isClsIn K CY = true)
    (q7 : PySem.W.findIn K (.ref C) "__class__" = some (some (.builtin "object.__class__")))
    (q8 : PySem.W.specialIn K (.builtin "object.__class__") "__get__" = some (some (.builtin "getset_descriptor.__get__")))
    (q9 : PySem.W.takesIn K (.builtin "object.__class__") = some true)
    (q10 : PySem.W.mroIn K C (.type "object") = some true)
    (a0 : PySem.W.findIn K (.ref C) "__init__" = some (some (.ref f0)))
    (t0 : PySem.W.typeIn K (.ref f0) = some (.type "function"))
    (l0 : K.lookup f0 = some ⟨oc0, od0, .func (PySem.W.fnOf "__init__" "BadText.__init__" (defArgs sInit) (defBody sInit) (defScope sInit) .none kV0 dc0 pm0 an0 cd0 ct0), sl0⟩)
    (c0 : PySem.W.codeIn K cd0 "BadText.__init__" = true)
    (k0 : PySem.W.keepIn K (.ref f0) = true)
    (gL : PySem.W.nsIn K mainGlobals "LETTERS" = some (some (.str "abcdefghijklmnopqrstuvwxyz" gt0)))
    (gR : PySem.W.nsIn K mainGlobals "RUN_SIGNS" = some (some (.str "abcdefghijklmnopqrstuvwxyz_0123456789" gt1)))
    (gM : PySem.W.nsIn K mainGlobals "NAME_MOST" = some (some (.int 12 gt2)))
    (gW : PySem.W.nsIn K mainGlobals "WORDS" = some (some (.ref aW)))
    (lW : K.lookup aW = some ⟨.type "tuple", odW, .seq #[.str "yard" w0, .str "places" w1, .str "tie" w2, .str "way" w3, .str "ring" w4, .str "stand" w5, .str "end" w6, .str "to" w7, .str "never" w8] nW, slW⟩)
    (gP : PySem.W.nsIn K mainGlobals "PROMISE_WORDS" = some (some (.ref aP)))
    (lP : K.lookup aP = some ⟨.type "tuple", odP, .seq #[.str "to" p0, .str "never" p1] nP, slP⟩)
    (a1 : PySem.W.nsIn K mainGlobals "is_name" = some (some (.ref f1)))
    (l1 : K.lookup f1 = some ⟨oc1, od1, .func (PySem.W.fnOf "is_name" "is_name" (defArgs sIsName) (defBody sIsName) (defScope sIsName) .none kV1 dc1 pm1 an1 cd1 ct1), sl1⟩)
    (c1 : PySem.W.codeIn K cd1 "is_name" = true)
    (k1 : PySem.W.keepIn K (.ref f1) = true)
    (a2 : PySem.W.nsIn K mainGlobals "past_signs" = some (some (.ref f2)))
    (l2 : K.lookup f2 = some ⟨oc2, od2, .func (PySem.W.fnOf "past_signs" "past_signs" (defArgs sSigns) (defBody sSigns) (defScope sSigns) .none kV2 dc2 pm2 an2 cd2 ct2), sl2⟩)
    (c2 : PySem.W.codeIn K cd2 "past_signs" = true)
    (k2 : PySem.W.keepIn K (.ref f2) = true)
    (a3 : PySem.W.nsIn K mainGlobals "past_spaces" = some (some (.ref f3)))
    (l3 : K.lookup f3 = some ⟨oc3, od3, .func (PySem.W.fnOf "past_spaces" "past_spaces" (defArgs sSpaces) (defBody sSpaces) (defScope sSpaces) .none kV3 dc3 pm3 an3 cd3 ct3), sl3⟩)
    (c3 : PySem.W.codeIn K cd3 "past_spaces" = true)
    (k3 : PySem.W.keepIn K (.ref f3) = true)
    (a4 : PySem.W.nsIn K mainGlobals "past_gap" = some (some (.ref f4)))
    (l4 : K.lookup f4 = some ⟨oc4, od4, .func (PySem.W.fnOf "past_gap" "past_gap" (defArgs sGap) (defBody sGap) (defScope sGap) .none kV4 dc4 pm4 an4 cd4 ct4), sl4⟩)
    (c4 : PySem.W.codeIn K cd4 "past_gap" = true)
    (k4 : PySem.W.keepIn K (.ref f4) = true)
    (a5 : PySem.W.nsIn K mainGlobals "check_end" = some (some (.ref f5)))
    (l5 : K.lookup f5 = some ⟨oc5, od5, .func (PySem.W.fnOf "check_end" "check_end" (defArgs sEnd) (defBody sEnd) (defScope sEnd) .none kV5 dc5 pm5 an5 cd5 ct5), sl5⟩)
    (c5 : PySem.W.codeIn K cd5 "check_end" = true)
    (k5 : PySem.W.keepIn K (.ref f5) = true)
    (a6 : PySem.W.nsIn K mainGlobals "read_word" = some (some (.ref f6)))
    (l6 : K.lookup f6 = some ⟨oc6, od6, .func (PySem.W.fnOf "read_word" "read_word" (defArgs sWord) (defBody sWord) (defScope sWord) .none kV6 dc6 pm6 an6 cd6 ct6), sl6⟩)
    (c6 : PySem.W.codeIn K cd6 "read_word" = true)
    (k6 : PySem.W.keepIn K (.ref f6) = true)
    (a7 : PySem.W.nsIn K mainGlobals "read_name" = some (some (.ref f7)))
    (l7 : K.lookup f7 = some ⟨oc7, od7, .func (PySem.W.fnOf "read_name" "read_name" (defArgs sRName) (defBody sRName) (defScope sRName) .none kV7 dc7 pm7 an7 cd7 ct7), sl7⟩)
    (c7 : PySem.W.codeIn K cd7 "read_name" = true)
    (k7 : PySem.W.keepIn K (.ref f7) = true)
    (a8 : PySem.W.nsIn K mainGlobals "promise_of" = some (some (.ref f8)))
    (l8 : K.lookup f8 = some ⟨oc8, od8, .func (PySem.W.fnOf "promise_of" "promise_of" (defArgs sPromise) (defBody sPromise) (defScope sPromise) .none kV8 dc8 pm8 an8 cd8 ct8), sl8⟩)
    (c8 : PySem.W.codeIn K cd8 "promise_of" = true)
    (k8 : PySem.W.keepIn K (.ref f8) = true)
    (a9 : PySem.W.nsIn K mainGlobals "promise_text" = some (some (.ref f9)))
    (l9 : K.lookup f9 = some ⟨oc9, od9, .func (PySem.W.fnOf "promise_text" "promise_text" (defArgs sPText) (defBody sPText) (defScope sPText) .none kV9 dc9 pm9 an9 cd9 ct9), sl9⟩)
    (c9 : PySem.W.codeIn K cd9 "promise_text" = true)
    (k9 : PySem.W.keepIn K (.ref f9) = true)
    (a10 : PySem.W.nsIn K mainGlobals "_law_pen" = some (some (.ref f10)))
    (l10 : K.lookup f10 = some ⟨oc10, od10, .func (PySem.W.fnOf "_law_pen" "_law_pen" (defArgs sPen) (defBody sPen) (defScope sPen) .none kV10 dc10 pm10 an10 cd10 ct10), sl10⟩)
    (c10 : PySem.W.codeIn K cd10 "_law_pen" = true)
    (k10 : PySem.W.keepIn K (.ref f10) = true)
    (a11 : PySem.W.nsIn K mainGlobals "_law_draw" = some (some (.ref f11)))
    (l11 : K.lookup f11 = some ⟨oc11, od11, .func (PySem.W.fnOf "_law_draw" "_law_draw" (defArgs sDraw) (defBody sDraw) (defScope sDraw) .none kV11 dc11 pm11 an11 cd11 ct11), sl11⟩)
    (c11 : PySem.W.codeIn K cd11 "_law_draw" = true)
    (k11 : PySem.W.keepIn K (.ref f11) = true)
    (a12 : PySem.W.nsIn K mainGlobals "_law_pick" = some (some (.ref f12)))
    (l12 : K.lookup f12 = some ⟨oc12, od12, .func (PySem.W.fnOf "_law_pick" "_law_pick" (defArgs sPick) (defBody sPick) (defScope sPick) .none kV12 dc12 pm12 an12 cd12 ct12), sl12⟩)
    (c12 : PySem.W.codeIn K cd12 "_law_pick" = true)
    (k12 : PySem.W.keepIn K (.ref f12) = true)
    (a13 : PySem.W.nsIn K mainGlobals "_law_why" = some (some (.ref f13)))
    (l13 : K.lookup f13 = some ⟨oc13, od13, .func (PySem.W.fnOf "_law_why" "_law_why" (defArgs sWhy) (defBody sWhy) (defScope sWhy) .none kV13 dc13 pm13 an13 cd13 ct13), sl13⟩)
    (c13 : PySem.W.codeIn K cd13 "_law_why" = true)
    (k13 : PySem.W.keepIn K (.ref f13) = true)
    (a14 : PySem.W.nsIn K mainGlobals "_law_name" = some (some (.ref f14)))
    (l14 : K.lookup f14 = some ⟨oc14, od14, .func (PySem.W.fnOf "_law_name" "_law_name" (defArgs sLName) (defBody sLName) (defScope sLName) .none kV14 dc14 pm14 an14 cd14 ct14), sl14⟩)
    (c14 : PySem.W.codeIn K cd14 "_law_name" = true)
    (k14 : PySem.W.keepIn K (.ref f14) = true)
    (a15 : PySem.W.nsIn K mainGlobals "_law_wrong" = some (some (.ref f15)))
    (l15 : K.lookup f15 = some ⟨oc15, od15, .func (PySem.W.fnOf "_law_wrong" "_law_wrong" (defArgs sWrong) (defBody sWrong) (defScope sWrong) .none kV15 dc15 pm15 an15 cd15 ct15), sl15⟩)
    (c15 : PySem.W.codeIn K cd15 "_law_wrong" = true)
    (k15 : PySem.W.keepIn K (.ref f15) = true)
    (a16 : PySem.W.nsIn K mainGlobals "law" = some (some (.ref f16)))
    (l16 : K.lookup f16 = some ⟨oc16, od16, .func (PySem.W.fnOf "law" "law" (defArgs sLaw) (defBody sLaw) (defScope sLaw) .none kV16 dc16 pm16 an16 cd16 ct16), sl16⟩)
    (c16 : PySem.W.codeIn K cd16 "law" = true)
    (k16 : PySem.W.keepIn K (.ref f16) = true)
    (z0 : PySem.W.nsIn K mainGlobals "isinstance" = some none)
    (z1 : PySem.W.nsIn K mainGlobals "str" = some none)
    (z2 : PySem.W.nsIn K mainGlobals "len" = some none)
    (z3 : PySem.W.nsIn K mainGlobals "all" = some none)
    (z4 : PySem.W.nsIn K mainGlobals "any" = some none)
    (z5 : PySem.W.nsIn K mainGlobals "min" = some none)
    (z6 : PySem.W.nsIn K mainGlobals "int" = some none)
    (z7 : PySem.W.nsIn K mainGlobals "list" = some none)
    (z8 : PySem.W.nsIn K mainGlobals "range" = some none)
    (ss : PySem.W.nsIn K cStatics sharingNotToldKey = some none) :
    ∃ fd : FuncData, (∀ (s : Shared) (v : Value), BindsTo s fd ⟨[v], []⟩ [("_law_script", v)]) ∧ ∀ base : Heap, K.In base → base.Ns mainGlobals mg → FnOk P w K mg base CX0 6 fa fd ["_law_script"] (spLaw K) := by
  have e := hfa.symm.trans (PySem.W.mg_of X G a16)
  cases e
  have xc : XcC K C := ⟨⟨⟨nm, q, N, bs, _, sn, sub, ab, col, dd, m0, m1, m2, m3, m5, xL, rfl⟩, sa, eC, tC, kC⟩, ⟨ga, gg, eC, hC⟩, sC, iC⟩
  have gC := PySem.W.mg_of X G aC
  have T3 : T3 K mg C f0 f1 f2 f3 f4 f5 f6 f7 f8 := { isi := PySem.W.mg_none_of X G z0, str := PySem.W.mg_none_of X G z1, len := PySem.W.mg_none_of X G z2, all := PySem.W.mg_none_of X G z3, any := PySem.W.mg_none_of X G z4, min := PySem.W.mg_none_of X G z5, gLet := ⟨_, PySem.W.mg_of X G gL⟩, gRun := ⟨_, PySem.W.mg_of X G gR⟩, gMost := ⟨_, PySem.W.mg_of X G gM⟩, gWords := ⟨_, PySem.W.mg_of X G gW, tup_at lW (by show 9 ≤ 1000; decide) (.cons ⟨_, rfl⟩ (.cons ⟨_, rfl⟩ (.cons ⟨_, rfl⟩ (.cons ⟨_, rfl⟩ (.cons ⟨_, rfl⟩ (.cons ⟨_, rfl⟩ (.cons ⟨_, rfl⟩ (.cons ⟨_, rfl⟩ (.cons ⟨_, rfl⟩ (.nil))))))))))⟩, gPW := ⟨_, PySem.W.mg_of X G gP, tup_at lP (by show 2 ≤ 1000; decide) (.cons ⟨_, rfl⟩ (.cons ⟨_, rfl⟩ .nil))⟩, gC := gC, xc := xc, iC := a0, tI := t0, nC := nC, gName := PySem.W.mg_of X G a1, gSigns := PySem.W.mg_of X G a2, gSpaces := PySem.W.mg_of X G a3, gGap := PySem.W.mg_of X G a4, gEnd := PySem.W.mg_of X G a5, gWord := PySem.W.mg_of X G a6, gRName := PySem.W.mg_of X G a7, gPromise := PySem.W.mg_of X G a8 }
  have TP : TxP K mg f11 := ⟨PySem.W.mg_none_of X G z6, PySem.W.mg_none_of X G z7, PySem.W.mg_none_of X G z2, PySem.W.mg_of X G a11⟩
  have TL : TL3 K mg C CY f11 f12 f8 f9 f10 f13 f14 f15 := { p := TP, isi := PySem.W.mg_none_of X G z0, len := PySem.W.mg_none_of X G z2, range := PySem.W.mg_none_of X G z8, gC := gC, gY := PySem.W.mg_of X G aY, xc := xc, xi := ⟨iC, ga, gg, eC, q7, q8, q9, q10⟩, nC := nC, te := exm_self eC iC tC sC, ki := kit_own iY tY sY, gPick := PySem.W.mg_of X G a12, gPromise := PySem.W.mg_of X G a8, gPText := PySem.W.mg_of X G a9, gPen := PySem.W.mg_of X G a10, gWhy := PySem.W.mg_of X G a13, gLName := PySem.W.mg_of X G a14, gWrong := PySem.W.mg_of X G a15, stat := ss }
  have F0 := fun_mk (st := sInit) l0 c0 k0
  have b0 := F0.binds (ps := ["self", "column"]) fun _ _ _ _ _ _ us hl => match us, hl with | [_, _], _ => rfl
  have F1 := fun_mk (st := sIsName) l1 c1 k1
  have b1 := F1.binds (ps := ["value"]) fun _ _ _ _ _ _ us hl => match us, hl with | [_], _ => rfl
  have F2 := fun_mk (st := sSigns) l2 c2 k2
  have b2 := F2.binds (ps := ["text", "at", "signs"]) fun _ _ _ _ _ _ us hl => match us, hl with | [_, _, _], _ => rfl
  have F3 := fun_mk (st := sSpaces) l3 c3 k3
  have b3 := F3.binds (ps := ["text", "at"]) fun _ _ _ _ _ _ us hl => match us, hl with | [_, _], _ => rfl
  have F4 := fun_mk (st := sGap) l4 c4 k4
  have b4 := F4.binds (ps := ["text", "at"]) fun _ _ _ _ _ _ us hl => match us, hl with | [_, _], _ => rfl
  have F5 := fun_mk (st := sEnd) l5 c5 k5
  have b5 := F5.binds (ps := ["text", "at"]) fun _ _ _ _ _ _ us hl => match us, hl with | [_, _], _ => rfl
  have F6 := fun_mk (st := sWord) l6 c6 k6
  have b6 := F6.binds (ps := ["text", "at", "words"]) fun _ _ _ _ _ _ us hl => match us, hl with | [_, _, _], _ => rfl
  have F7 := fun_mk (st := sRName) l7 c7 k7
  have b7 := F7.binds (ps := ["text", "at"]) fun _ _ _ _ _ _ us hl => match us, hl with | [_, _], _ => rfl
  have F8 := fun_mk (st := sPromise) l8 c8 k8
  have b8 := F8.binds (ps := ["text"]) fun _ _ _ _ _ _ us hl => match us, hl with | [_], _ => rfl
  have F9 := fun_mk (st := sPText) l9 c9 k9
  have b9 := F9.binds (ps := ["promise"]) fun _ _ _ _ _ _ us hl => match us, hl with | [_], _ => rfl
  have F10 := fun_mk (st := sPen) l10 c10 k10
  have b10 := F10.binds (ps := ["_law_script"]) fun _ _ _ _ _ _ us hl => match us, hl with | [_], _ => rfl
  have F11 := fun_mk (st := sDraw) l11 c11 k11
  have b11 := F11.binds (ps := ["_law_pen_here", "_law_many"]) fun _ _ _ _ _ _ us hl => match us, hl with | [_, _], _ => rfl
  have F12 := fun_mk (st := sPick) l12 c12 k12
  have b12 := F12.binds (ps := ["_law_pen_here", "_law_some"]) fun _ _ _ _ _ _ us hl => match us, hl with | [_, _], _ => rfl
  have F13 := fun_mk (st := sWhy) l13 c13 k13
  have b13 := F13.binds (ps := ["_law_text"]) fun _ _ _ _ _ _ us hl => match us, hl with | [_], _ => rfl
  have F14 := fun_mk (st := sLName) l14 c14 k14
  have b14 := F14.binds (ps := ["_law_pen_here"]) fun _ _ _ _ _ _ us hl => match us, hl with | [_], _ => rfl
  have F15 := fun_mk (st := sWrong) l15 c15 k15
  have b15 := F15.binds (ps := ["_law_pen_here"]) fun _ _ _ _ _ _ us hl => match us, hl with | [_], _ => rfl
  have F16 := fun_mk (st := sLaw) l16 c16 k16
  refine ⟨PySem.W.fnOf "law" "law" (defArgs sLaw) (defBody sLaw) (defScope sLaw) .none kV16 dc16 pm16 an16 cd16 ct16, fun s v => .of_eq rfl, fun base _ _ => ?_⟩
  have G0 := ok_init (P := P) (w := w) (base := base) F0 T3
  have gSp := ok_spaces (P := P) (w := w) (base := base) F3 T3 F2 b2
  have gGap := ok_gap (P := P) (w := w) (base := base) F4 T3 gSp F3 b3 G0 b0
  have gEnd := ok_end (P := P) (w := w) (base := base) F5 T3 gSp F3 b3 G0 b0
  have gWord := ok_word (P := P) (w := w) (base := base) F6 T3 G0 b0
  have gRN := ok_rname (P := P) (w := w) (base := base) F7 T3 F2 b2 F1 b1 G0 b0
  have gPr := ok_promise (P := P) (w := w) (base := base) F8 T3 gSp F3 b3 gRN F7 b7 gGap F4 b4 gWord F6 b6 gEnd F5 b5 G0 b0
  have gPT := ok_ptext (P := P) (w := w) (base := base) (mg := mg) F9
  have gPen := ok_pen (P := P) (w := w) (base := base) F10 TP
  have gD := ok_draw (P := P) (w := w) (base := base) F11 TP
  have gPk := ok_pick (P := P) (w := w) (base := base) F12 TP F11 b11
  have gWhy := ok_why (P := P) (w := w) (base := base) F13 TL gPr F8 b8
  have gLN := ok_lname (P := P) (w := w) (base := base) F14 TL gPk F12 b12
  have gWr := ok_wrong (P := P) (w := w) (base := base) F15 TL gPk F12 b12
  exact ok_law (P := P) (w := w) (base := base) F16 TL gD F11 b11 gPk F12 b12 gPr F8 b8 gPT F9 b9 gPen F10 b10 gWhy F13 b13 gLN F14 b14 gWr F15 b15
theorem walk {l : PySem.W.OpenLaw} {q : Program} {loose : List Str} {XP : (Str → Option Value) → Heap → Prop} {YP : World → Heap → Prop} {d : DefRec} {K : Params → PySem.W.Frag} (hn : l.most = some 63) (hdf : d.params.defaults = [])
    (hY : ∀ (w : World) (h : Heap), YP w h → (K w.params).In h)
    (F : ∀ (w : World) (mg : Str → Option Value) (fa : Addr) (h : Heap), (K w.params).In h → h.Ns mainGlobals mg → mg d.name = some (.ref fa) →
      ∃ fd : FuncData, (∀ (s : Shared) (u : Value), BindsTo s fd ⟨[u], []⟩ [("_law_script", u)]) ∧ ∀ base : Heap, (K w.params).In base → base.Ns mainGlobals mg → FnOk l.prog w (K w.params) mg base CX0 6 fa fd ["_law_script"] (spLaw (K w.params))) :
    PySem.W.WalkO q loose XP YP l.row.toRowW d [] (fun f vs => PySem.call f vs) :=
  L2.walk_of (n := 63) (k := 6) (x := "_law_script") (CX := fun _ => CX0) (sp := fun w => spLaw (K w.params)) hn (by decide) hdf ⟨rfl, by decide, by decide⟩ hY F (fun _ _ a ns hl _ hS => ⟨a, ns, rfl, hS, hl, fun _ => rfl⟩) fun _ _ _ _ _ z => z
end Y
open PySem PySem.W PyProof.Rows
set_option maxRecDepth 100000 in
set_option maxHeartbeats 0 in
theorem PySem.Challenge.cw_slideyards_k03_whole_promise_texts_holds : PySem.Challenge.rw_slideyards_k03_whole_promise_texts.Holds := by
  w_on; o_law; k_head; (case hw => w_witness2)
  k_fill
  refine Y.walk (l := PySem.Challenge.rw_slideyards_k03_whole_promise_texts) rfl rfl (fun w h Y => PySem.W.kIn_of Y) ?F
  case F =>
    intro w mg fa h KX G hmg
    refine' Y.all_mk KX G hmg ?aY ?aC ?xL ?sa ?ga ?gg ?nC ?kC ?eC ?tC ?hC ?iC ?sC ?sY ?tY ?iY ?q7 ?q8 ?q9 ?q10 ?a0 ?t0 ?l0 ?c0 ?k0 ?gL ?gR ?gM ?gW ?lW ?gP ?lP ?a1 ?l1 ?c1 ?k1 ?a2 ?l2 ?c2 ?k2 ?a3 ?l3 ?c3 ?k3 ?a4 ?l4 ?c4 ?k4 ?a5 ?l5 ?c5 ?k5 ?a6 ?l6 ?c6 ?k6 ?a7 ?l7 ?c7 ?k7 ?a8 ?l8 ?c8 ?k8 ?a9 ?l9 ?c9 ?k9 ?a10 ?l10 ?c10 ?k10 ?a11 ?l11 ?c11 ?k11 ?a12 ?l12 ?c12 ?k12 ?a13 ?l13 ?c13 ?k13 ?a14 ?l14 ?c14 ?k14 ?a15 ?l15 ?c15 ?k15 ?a16 ?l16 ?c16 ?k16 ?z0 ?z1 ?z2 ?z3 ?z4 ?z5 ?z6 ?z7 ?z8 ?ss
    (case aY => k_is); (case aC => k_is); (case xL => k_is); (case sa => k_is); (case ga => k_is); (case gg => k_is)
    (case nC => k_is); (case kC => k_is); (case eC => k_is); (case tC => k_is); (case hC => k_is); (case iC => k_is)
    (case sC => first | rfl | k_is); (case sY => k_is); (case tY => k_is); (case iY => k_is); (case q7 => k_is); (case q8 => k_is)
    (case q9 => k_is); (case q10 => k_is); (case a0 => k_is); (case t0 => k_is); (case l0 => k_is); (case c0 => k_is)
    (case k0 => k_is); (case gL => k_is); (case gR => k_is); (case gM => k_is); (case gW => k_is); (case lW => k_is)
    (case gP => k_is); (case lP => k_is); (case a1 => k_is); (case l1 => k_is); (case c1 => k_is); (case k1 => k_is)
    (case a2 => k_is); (case l2 => k_is); (case c2 => k_is); (case k2 => k_is); (case a3 => k_is); (case l3 => k_is)
    (case c3 => k_is); (case k3 => k_is); (case a4 => k_is); (case l4 => k_is); (case c4 => k_is); (case k4 => k_is)
    (case a5 => k_is); (case l5 => k_is); (case c5 => k_is); (case k5 => k_is); (case a6 => k_is); (case l6 => k_is)
    (case c6 => k_is); (case k6 => k_is); (case a7 => k_is); (case l7 => k_is); (case c7 => k_is); (case k7 => k_is)
    (case a8 => k_is); (case l8 => k_is); (case c8 => k_is); (case k8 => k_is); (case a9 => k_is); (case l9 => k_is)
    (case c9 => k_is); (case k9 => k_is); (case a10 => k_is); (case l10 => k_is); (case c10 => k_is); (case k10 => k_is)
    (case a11 => k_is); (case l11 => k_is); (case c11 => k_is); (case k11 => k_is); (case a12 => k_is); (case l12 => k_is)
    (case c12 => k_is); (case k12 => k_is); (case a13 => k_is); (case l13 => k_is); (case c13 => k_is); (case k13 => k_is)
    (case a14 => k_is); (case l14 => k_is); (case c14 => k_is); (case k14 => k_is); (case a15 => k_is); (case l15 => k_is)
    (case c15 => k_is); (case k15 => k_is); (case a16 => k_is); (case l16 => k_is); (case c16 => k_is); (case k16 => k_is)
    (case z0 => k_is); (case z1 => k_is); (case z2 => k_is); (case z3 => k_is); (case z4 => k_is); (case z5 => k_is)
    (case z6 => k_is); (case z7 => k_is); (case z8 => k_is); (case ss => k_is)
