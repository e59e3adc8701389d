import PyProof.Rows.All
import Wide.All
import OpenK.AllK
import Wide.FinOn
import PyProof.EnumMake
import PyProof.Draws
import KE.GoesMore
import HandS.ForMost
import HandS.TupSets
import HandS.SetFor
import HandS.Wide
import HandS.Conv
import PyProof.ListIndex
import HandS.Rev
import HandS.Walk
import PyProof.ReprRoads
import HandS.Deep
import PyProof.P3In
import PySem.Challenge.RW_slideyards_k06_whole_moves_taken_back
import HandS.Codes
import HandS.Style
import HandS.Flow
import HandS.IsInst
import PyProof.EqAt
import HandS.Words
set_option Elab.async false
set_option linter.all false
set_option maxRecDepth 100000
set_option maxHeartbeats 2000000
namespace PySem
open Sem (wp)
open AutoSeq1 (wpAny_loadPart')
theorem meets_enumerate_newT (l : Addr) (items : Array Value) (n : Nat) (dct : Option Addr) (sl : Array (Option Value)) :
    Meets (Builtin.«enumerate.__new__» ⟨[.type "enumerate", .ref l], []⟩) (fun _ R s => s.heap.get? l = some { cls := .type "tuple", dict := dct, data := .seq items n, slots := sl } ∧
      R (.ok (.ret (.ref (s.heap.push { cls := .type "tuple_iterator", data := .fields #[.ref l, .int 0 0] }).objs.size)))
        { s with heap := (s.heap.push { cls := .type "tuple_iterator", data := .fields #[.ref l, .int 0 0] }).push { cls := .type "enumerate", data := .fields #[.none, .bool false, .ref s.heap.objs.size, rawInt 0, .none, .none] } }) :=
  .of_wp fun prog w A R s h => by
    obtain ⟨hp, g, d, tk, os⟩ := s; obtain ⟨hl, h⟩ := h
    have hsub := sub_enumerate
    have hL : Heap.IsTuple (Shared.heap ⟨hp, g, d, tk, os⟩) l items := ⟨_, hl, rfl, n, rfl⟩
    wp_walk using wpAny_loadPart' hl
    refine wpAny_stack_any fun st => wpAny_pure ?_
    split
    · rename_i c _ _ _ _ _
      cases (c == Value.type "enumerate")
      · wp_walk using wpAny_loadPart' hl, wpAny_pyIter_tuple hL
        exact ⟨_, rfl, h⟩
      · wp_walk using wpAny_loadPart' hl, wpAny_pyIter_tuple hL
        exact ⟨_, rfl, h⟩
    · wp_walk using wpAny_loadPart' hl, wpAny_pyIter_tuple hL
      exact ⟨_, rfl, h⟩
section
variable {prog : Program} {w : World} {A : Around} {E : Value → Shared → Prop} {s : Shared}
theorem call_enumerate_tuple {l : Addr} {items : Array Value} {Q : Value → Shared → Prop} (hL : s.heap.IsTuple l items)
    (h : ∀ h', IsEnum h' (s.heap.objs.size + 1) s.heap.objs.size 0 .none → h'.IsTupleIter s.heap.objs.size l 0 → h'.objs.size = s.heap.objs.size + 2 →
      (∀ b o, s.heap.get? b = some o → h'.get? b = some o) → Q (.ref (s.heap.objs.size + 1)) { s with heap := h' }) :
    wpAny (model prog w) A (call (.type "enumerate") [.ref l]) Q E s := by
  obtain ⟨⟨c, dct, dt, sl⟩, hl, hc, n, hd⟩ := hL
  replace hc : c = .type "tuple" := hc
  replace hd : dt = .seq items n := hd
  subst hc hd
  refine callType_new F.called_enumerate (by decide) (F.typeCall_enumerate_1 _) (F.newCall_enumerate_1 _) (fun obj => F.args_object_init_2 obj _) F.entry_enumerate_new
    (meets_enumerate_newT l items n dct sl) ⟨hl, ?_⟩
  have hz : (s.heap.push { cls := .type "tuple_iterator", data := .fields #[.ref l, .int 0 0] }).objs.size = s.heap.objs.size + 1 := Heap.size_push ..
  show _ ∧ _
  rw [hz]
  have he : IsEnum ((s.heap.push { cls := .type "tuple_iterator", data := .fields #[.ref l, .int 0 0] }).push
      { cls := .type "enumerate", data := .fields #[.none, .bool false, .ref s.heap.objs.size, rawInt 0, .none, .none] }) (s.heap.objs.size + 1) s.heap.objs.size 0 .none := by
    have := Heap.get?_push_size (s.heap.push { cls := .type "tuple_iterator", data := .fields #[.ref l, .int 0 0] })
      (o := { cls := .type "enumerate", data := .fields #[.none, .bool false, .ref s.heap.objs.size, rawInt 0, .none, .none] }) rfl
    rw [hz] at this; exact this
  refine ⟨⟨_, he, rfl⟩, h _ he ⟨_, Heap.get?_push_of_some _ (Heap.get?_push_size _ rfl), rfl, rfl⟩ (by rw [Heap.size_push, hz]) fun b o x => Heap.get?_push_of_some _ (Heap.get?_push_of_some _ x)⟩
end
end PySem
namespace L2
open PySem PySem.Spec PyProof.Rows
/-- the tuple at a, each item in a new pair -/
def IteT (K : PySem.W.Frag) (a : Addr) : It :=
  ⟨fun i H => ∃ (xs : List V) (x : V), SqT K H a xs ∧ xs[i]? = some x, fun i H v H' => ∃ T x, v = .ref T ∧ H T = none ∧ H' = upd H T (.tup [.int (i : Nat), x]) ∧ ∀ xs, SqT K H a xs → xs[i]? = some x, fun i H => ∃ xs : List V, SqT K H a xs ∧ xs.length = i⟩
theorem turn_enumT {P : Program} {w : World} {K : PySem.W.Frag} {elts : List Expr} {kk : Nat} {tpos : Pos} (a e it : Addr) :
    Turn P w K (.Tuple elts kk tpos) (IteT K a) [e, it] e (fun i h => (∃ old, IsEnum h e it ((i : Nat) : Int) old) ∧ h.IsTupleIter it a i ∧ e ≠ it ∧ a ≠ it ∧ a ≠ e) where
  mem := by simp
  obj := fun i h st b hb => by
    obtain ⟨⟨old, he⟩, ⟨o, ho, hc, hd⟩, _⟩ := st
    have e' : b = e ∨ b = it := by simpa using hb
    rcases e' with z | z
    · rw [z]; exact ⟨_, he, fun v q => nomatch q⟩
    · rw [z]; exact ⟨o, ho, fun v q => by rw [hd] at q; cases q⟩
  keep := fun i h h' st k => let ⟨⟨old, he⟩, ⟨o, ho, hr⟩, hne⟩ := st; ⟨⟨old, k e (by simp) _ he⟩, ⟨o, k it (by simp) _ ho, hr⟩, hne⟩
  item := by
    intro X hP hw hK hc i pins s σ H E I hf st hg
    subst hP hw hK
    obtain ⟨⟨old, he⟩, hit, hne, hai, hae⟩ := st
    obtain ⟨xs, x, hq, hx⟩ := hg
    obtain ⟨its, rv, p, hz⟩ := I.tuple hq
    obtain ⟨u, hu, ru⟩ := rv.get hx
    have hel : e < s.heap.objs.size := Heap.lt_size he
    have hil : it < s.heap.objs.size := by obtain ⟨_, q, _⟩ := hit; exact Heap.lt_size q
    have hu' : its.toArray[i]? = some u := by simpa using hu
    have hlt : i < its.toArray.size := by
      rcases Nat.lt_or_ge i its.toArray.size with h | h
      · exact h
      · rw [Array.getElem?_eq_none h] at hu'; cases hu'
    refine wpAny_pyNext_enum_itemD (Draws.tuple (A := X.A.in1) (I.ok.hd hc) it a hai its.toArray) he ⟨hit, p⟩ hlt hne (by simp [hne, Ne.symm hae]) fun v h' tk hv ho hst hT hsz hk => ?_
    obtain rfl : v = u := by
      rw [hu'] at hv
      exact (Option.some.inj hv).symm
    refine ⟨_, rfl, wpAny_letOwnedTupleGo_enum (s := { s with heap := h', toks := tk + 1 }) ho fun h'' he' sb => ?_⟩
    have hT2 : h''.get? s.heap.objs.size = some { cls := .type "tuple", data := .seq #[.int i tk, v] } := (sb.2 _ (Nat.ne_of_gt hel)).trans hT
    have new : ObjOk X.prog X.w (upd H s.heap.objs.size (.tup [.int (i : Nat), x])) h'' s.heap.objs.size (.tup [.int (i : Nat), x]) :=
      ⟨by show 2 ≤ sizeLine; decide, [.int i tk, v], .cons ⟨_, rfl⟩ (.cons ru .nil), ⟨_, hT2, rfl, _, rfl⟩⟩
    have I1 : Inv X pins σ (upd H s.heap.objs.size (.tup [.int (i : Nat), x])) { s with heap := h'', toks := tk + 1 } :=
      I.turnedNew (ch := [e, it]) (fun b ob hb q => (sb.2 b (fun z => hb (by simp [z]))).trans (hk b ob (fun z => hb (by simp [z])) (fun z => hb (by simp [z])) q)) hf (Nat.le_refl _) new
    refine ⟨.ref s.heap.objs.size, _, I1, rfl, ⟨_, x, rfl, I.hok.fresh (Nat.le_refl _), rfl, fun ys hy => by rw [I.tuple_inj hy hq]; exact hx⟩, ⟨⟨v, ?_⟩, ?_, hne, hai, hae⟩, fun b hb => ?_⟩
    · have e1 : ((i + 1 : Nat) : Int) = (i : Int) + 1 := by omega
      rw [e1]; exact he'
    · obtain ⟨o, ho2, hr⟩ := hst.1
      exact ⟨o, (sb.2 it (Ne.symm hne)).trans ho2, hr⟩
    · have hb' : b < s.heap.objs.size := by
        have e' : b = e ∨ b = it := by simpa using hb
        rcases e' with z | z
        · rw [z]; exact hel
        · rw [z]; exact hil
      rw [upd_ne (Nat.ne_of_lt hb')]
      exact (hf b hb).1
  done := by
    intro X hP hw hK hc i pins s σ H E I hf st hg
    subst hP hw hK
    obtain ⟨⟨old, he⟩, hit, hne, hai, hae⟩ := st
    obtain ⟨xs, hq, hx⟩ := hg
    obtain ⟨its, rv, p, hz⟩ := I.tuple hq
    obtain ⟨f0, f1, f2, f3, f4, f5⟩ := hf it (by simp)
    have hl := rv.length
    have hi : i = its.toArray.size := by rw [List.size_toArray]; omega
    subst hi
    exact wpAny_pyNext_enum_endD (Draws.tuple (A := X.A.in1) (I.ok.hd hc) it a hai its.toArray) he ⟨hit, p⟩ fun h' eb => ⟨rfl, I.turned (t' := s.toks) (fun b o hb q => eb b o hb q) f0 f1 f3 f4 f5⟩
  self := fun A i s Q E st h => let ⟨⟨_, he⟩, _⟩ := st; wpAny_pyIter_enum he h
def iEnumT (K : PySem.W.Frag) (ta : TA) : TI := fun σ H R => ta σ H fun vs H1 => ∃ a xs, vs = [.ref a] ∧ SqT K H1 a xs ∧ R (IteT K a) H1
theorem pi_enumT {X : Cx} {e : Expr} {ta : TA} {p pos tpos : Pos} {elts : List Expr} {kk : Nat} (hg : Gl X "enumerate") (hm : X.mg "enumerate" = none) (ha : PA X [e] ta) (hs : starEach [e] X.env = [(false, eval e X.env)] := by rfl) :
    PI X (.Tuple elts kk tpos) (.Call (.Name "enumerate" p) [e] [] pos) (iEnumT X.K ta) := by
  refine ⟨fun pins s σ H R I h => ?_⟩
  refine Call_ (ld_blt I hg hm boot_enumerate (PyProof.Rows.callWith_type1 (thn (ha.run pos pins s σ H _ I h) fun us s1 ⟨vs, H1, I1, r1, q1⟩ => ?_) hs rfl))
  obtain ⟨a, xs, ex, hq, q⟩ := q1
  subst ex
  cases r1 with
  | cons r rr =>
    cases rr
    cases r
    obtain ⟨its, rv, p', hz⟩ := I1.tuple hq
    have hal : a < s1.heap.objs.size := by obtain ⟨_, q, _⟩ := p'; exact Heap.lt_size q
    refine call_enumerate_tuple p' fun h' he hit hsz hk => wpAny_pyIter_enum he ?_
    have I2 : Inv X pins σ H1 { s1 with heap := h' } := I1.kept (t' := s1.toks) hk
    refine ⟨s1.heap.objs.size + 1, [s1.heap.objs.size + 1, s1.heap.objs.size], _, _, H1, rfl, I2, turn_enumT a (s1.heap.objs.size + 1) s1.heap.objs.size, ⟨⟨.none, he⟩, hit, Nat.succ_ne_self _, Nat.ne_of_lt hal, Nat.ne_of_lt (Nat.lt_succ_of_lt hal)⟩, fun b hb => ?_, q⟩
    have e' : b = s1.heap.objs.size + 1 ∨ b = s1.heap.objs.size := by simpa using hb
    have hle : s1.heap.objs.size ≤ b := by
      rcases e' with z | z
      · rw [z]; exact Nat.le_add_right _ _
      · rw [z]; exact Nat.le_refl _
    exact I1.fpOk hle (I1.hok.fresh hle)
/-- over a list or a tuple, whichever it is -/
theorem pi_or {X : Cx} {tg e : Expr} {i1 i2 : TI} (h1 : PI X tg e i1) (h2 : PI X tg e i2) : PI X tg e (fun σ H R => i1 σ H R ∨ i2 σ H R) := by
  refine ⟨fun pins s σ H R I h => ?_⟩
  rcases h with h | h
  · exact h1.run pins s σ H R I h
  · exact h2.run pins s σ H R I h
end L2
set_option Elab.async false
set_option linter.all false
set_option maxRecDepth 100000
set_option maxHeartbeats 2000000
namespace L2
open PySem PySem.Spec PyProof.Rows
/-! ### is the tuple in the set? -/
abbrev prb (m : Nat) (h : Int) (c : Nat) : SetTable.Probe := nth m (runAt m (SetTable.bits h % (m + 1)) (SetTable.bits h)) c
theorem prb_add (m : Nat) (h : Int) (c q : Nat) : nth m (prb m h c) q = prb m h (c + q) := (nth_add m c _ q).symm
theorem prb_j (m : Nat) (h : Int) (c q : Nat) : (nth m (prb m h c) q).j = way m h (c + q) := congrArg SetTable.Probe.j (prb_add m h c q)
theorem nth_dummy (m : Nat) : ∀ (n : Nat) (p : SetTable.Probe), p.dummy = none → (nth m p n).dummy = none
  | 0, _, h => h
  | n + 1, p, h => nth_dummy m n (adv m p) (by unfold adv; split <;> exact h)
section
variable {P : Program} {w : World} {A : Around} {E : Value → Shared → Prop} {s : Shared}
variable {a : Addr} {L : List (Addr × List Int)} {es : Array (Int × Value)} {ep : Nat} {t : SetTable}
theorem find_from (R : SetTR P w s.heap a L es ep t) {x : Addr} {k : List Int} (hx : IsT P w s.heap k x) (hu : A.units < cLine) {N : Nat} (hN : N < 10 * SetTable.turns t.mask)
    (free : way t.mask (thash P w k) N ∉ t.place.toList) (used : ∀ c, c < N → way t.mask (thash P w k) c ∈ t.place.toList) {Q : SetFound → Shared → Prop}
    (yes : k ∈ L.map (·.2) → ∀ i, Q (.there (some i)) s) (no : k ∉ L.map (·.2) → ∀ j d, Q (.free j d) s) :
    ∀ (f c : Nat) (st : Option SetTable.Probe), st.getD (t.probeStart (thash P w k)) = prb t.mask (thash P w k) c → c ≤ N → N - c < f →
      (∀ (i : Nat) p, L[i]? = some p → p.2 = k → ∃ c', c ≤ c' ∧ c' < N ∧ t.place.toList[i]? = some (way t.mask (thash P w k) c')) →
      wpAny (model P w) A (setSearchFrom a (.ref x) (thash P w k) false f st) Q E s
  | 0, _, _, _, _, hf, _ => absurd hf (Nat.not_lt_zero _)
  | f + 1, c, st, hst, hc, hf, hre => by
    obtain ⟨ob, hob, hexact, hdata⟩ := R.ob
    rw [setSearchFrom_succ]
    refine wpAny_bind (wpAny_setState_of hob hdata R.fits ?_)
    dsimp only
    refine wp_if_neg R.gw ?_
    try refine wpAny_bind (wpAny_pure ?_)
    have at_c : c + (N - c) = N := by omega
    have hashOf : ∀ (i : Nat) p, L[i]? = some p → (fun i => (es[i]?.map (·.1)).getD 0) i = thash P w p.2 := fun i p hp => by
      show (es[i]?.map (·.1)).getD 0 = _
      rw [R.entry hp] <;> rfl
    have spec := go_spec t R.tab.ris R.tab.dm (fun i => (es[i]?.map (·.1)).getD 0) (thash P w k) (10 * SetTable.turns t.mask) (N - c) (prb t.mask (thash P w k) c) (nth_dummy _ _ _ rfl) (by omega)
      (fun q hq => by rw [prb_j]; exact used (c + q) (by omega)) (by rw [prb_j, at_c]; exact free)
    rcases spec with ⟨q, i, hq, hi, hh, hno, hpr⟩ | ⟨hno, hpr⟩
    · have hpr' : t.probe (fun i => (es[i]?.map (·.1)).getD 0) (thash P w k) (st.getD (t.probeStart (thash P w k))) = some (.candidate (way t.mask (thash P w k) (c + q)) i (prb t.mask (thash P w k) (c + (q + 1)))) := by
        rw [hst, ← prb_j, ← prb_add]
        exact hpr
      rw [hpr']
      dsimp only
      rw [prb_j] at hi
      have hil : i < L.length := by
        have h1 : i < t.place.toList.length := (List.getElem?_eq_some_iff.mp hi).1
        have h2 : t.place.size = _ := R.tab.sz
        rw [List.length_map] at h2
        rw [Array.length_toList] at h1
        omega
      obtain ⟨p, hp⟩ : ∃ p, L[i]? = some p := ⟨L[i], List.getElem?_eq_getElem hil⟩
      have hmem : p ∈ L := List.mem_of_getElem? hp
      have isp := R.tup p hmem
      have rest : wpAny (model P w) A (searchRest a (.ref x) (thash P w k) false f es t (way t.mask (thash P w k) (c + q)) i (prb t.mask (thash P w k) (c + (q + 1)))) Q E s := by
        unfold searchRest
        rw [R.entry hp]
        dsimp only
        refine wpAny_bind (wpAny_holding (wpAny_eqBool_tuple hu isp hx ?_))
        refine wpAny_bind (wpAny_setState_of hob hdata R.fits ?_)
        dsimp only
        refine wp_if_neg (by simp) ?_
        try refine wpAny_bind (wpAny_pure ?_)
        rw [sameMem]
        dsimp only
        have live : t.slot (way t.mask (thash P w k) (c + q)) = .live i := slot_live R.tab.ris hi
        simp only [if_true, live, R.entry hp]
        refine wpAny_bind (wpAny_isSame_ref_self (wpAny_bind (wpAny_pure ?_)))
        simp only [if_true]
        by_cases same : p.2 = k
        · refine wp_if_pos (by simp [same]) ?_
          exact wpAny_pure (yes (List.mem_map.mpr ⟨p, hmem, same⟩) i)
        · refine wp_if_neg (by simp [same]) ?_
          refine find_from R hx hu hN free used yes no f (c + (q + 1)) _ rfl (by omega) (by omega) fun i0 p0 h0 hk0 => ?_
          obtain ⟨c', a1, a2, a3⟩ := hre i0 p0 h0 hk0
          refine ⟨c', ?_, a2, a3⟩
          rcases Nat.lt_trichotomy c' (c + q) with z | z | z
          · exact absurd ((hashOf i0 p0 h0).trans (congrArg (thash P w) hk0)) (hno (c' - c) i0 (by omega) (by rw [prb_j, show c + (c' - c) = c' by omega]; exact a3))
          · rw [z] at a3
            have s0 : t.slot (way t.mask (thash P w k) (c + q)) = .live i0 := slot_live R.tab.ris a3
            rw [live] at s0
            injection s0 with s0
            rw [← s0, hp] at h0
            exact absurd ((congrArg Prod.snd (Option.some.inj h0)).trans hk0) same
          · omega
      by_cases hl : t.led = true
      · refine wp_if_neg (by simp [hl]) ?_
        try refine wpAny_bind (wpAny_pure ?_)
        exact rest
      · refine wp_if_pos (by simp [hl]) ?_
        refine wpAny_bind (seen_tup hx (fun y hy => ?_) ?_)
        · obtain ⟨e, he, ee⟩ := List.mem_map.mp hy
          have both : e ∈ es ∧ e.1 = thash P w k := by simpa using he
          have he2 : e ∈ es.toList := Array.mem_toList_iff.mpr both.1
          rw [R.rows] at he2
          obtain ⟨p2, hp2, e2⟩ := List.mem_map.mp he2
          exact ⟨p2.2, p2.1, by rw [← ee, ← e2], R.tup p2 hp2⟩
        · refine wp_if_neg (by decide) ?_
          try refine wpAny_bind (wpAny_pure ?_)
          exact rest
    · have hpr' : t.probe (fun i => (es[i]?.map (·.1)).getD 0) (thash P w k) (st.getD (t.probeStart (thash P w k))) = some (.empty (way t.mask (thash P w k) N) none) := by
        have e2 : way t.mask (thash P w k) N = (nth t.mask (prb t.mask (thash P w k) c) (N - c)).j := by rw [prb_j, at_c]
        rw [hst, e2]
        exact hpr
      rw [hpr']
      dsimp only
      refine wpAny_pure (no (fun hm => ?_) _ _)
      obtain ⟨p0, h0, hk0⟩ := List.mem_map.mp hm
      obtain ⟨i0, hi0, e0⟩ := List.getElem_of_mem h0
      have at0 : L[i0]? = some p0 := by rw [List.getElem?_eq_getElem hi0, e0]
      obtain ⟨c', a1, a2, a3⟩ := hre i0 p0 at0 hk0
      exact absurd ((hashOf i0 p0 at0).trans (congrArg (thash P w) hk0)) (hno (c' - c) i0 (by omega) (by rw [prb_j, show c + (c' - c) = c' by omega]; exact a3))
theorem find_at (R : SetTR P w s.heap a L es ep t) {x : Addr} {k : List Int} (hx : IsT P w s.heap k x) (hu : A.units < cLine) {Q : Option Nat → Shared → Prop}
    (h : ∀ r : Option Nat, r.isSome = decide (k ∈ L.map (·.2)) → Q r s) : wpAny (model P w) A (setFind a (.ref x) (thash P w k)) Q E s := by
  obtain ⟨ob, hob, hexact, hdata⟩ := R.ob
  unfold setFind
  rw [show (100000 : Nat) = 99999 + 1 from rfl]
  unfold setFindIn
  refine wpAny_bind (wpAny_setState_of hob hdata R.fits ?_)
  dsimp only
  refine wp_if_neg (by simp [byScan, Value.scannable]) ?_
  try refine wpAny_bind (wpAny_pure ?_)
  have room := R.room
  obtain ⟨N, hN, free, used⟩ := R.tab.first (by rw [List.length_map]; omega) (thash P w k)
  have big : N < 100000 := by
    have : 10 * SetTable.turns t.mask ≤ 1420 := by
      unfold SetTable.turns
      rcases R.tab.mok with e | e | e <;> omega
    omega
  unfold setSearch
  refine wpAny_bind (find_from R hx hu hN free used (fun hm i => ?_) (fun hm j d => ?_) 100000 0 none rfl (Nat.zero_le _) (by omega) fun i p hp hk => ?_)
  · exact wpAny_pure (h _ (by rw [decide_eq_true hm]; rfl))
  · exact wpAny_pure (h _ (by rw [decide_eq_false hm]; rfl))
  · have hi : (L.map fun p => thash P w p.2)[i]? = some (thash P w k) := by rw [List.getElem?_map, hp, ← hk] <;> rfl
    have hil : i < t.place.toList.length := by
      have h1 : i < L.length := (List.getElem?_eq_some_iff.mp hp).1
      have h2 : t.place.size = _ := R.tab.sz
      rw [List.length_map] at h2
      rw [Array.length_toList]
      omega
    have hj := List.getElem?_eq_getElem hil
    obtain ⟨c, hc, e⟩ := R.tab.before free hi hj
    exact ⟨c, Nat.zero_le _, hc, by rw [hj, e]⟩
theorem in_setT (R : SetTR P w s.heap a L es ep t) {x : Addr} {k : List Int} (hx : IsT P w s.heap k x) (hu : A.units + 64 < cLine) {Q : Value → Shared → Prop}
    (h : Q (.bool (decide (k ∈ L.map (·.2)))) { s with toks := s.toks + (k.length + 1) }) : wpAny (model P w) A (compareOp .In (.ref x) (.ref a)) Q E s := by
  obtain ⟨ob, hob, hexact, hdata⟩ := R.ob
  have hT : s.TypeIs (.ref a) "set" := ⟨ob, hob, hexact.1⟩
  show wpAny _ _ (do return .bool (← contains (.ref a) (.ref x))) Q E s
  refine wpAny_bind ?_
  unfold contains
  try with_reducible refine wpAny_holding ?_
  refine wpAny_bind (wpAny_specialOf hT F.slot_set_contains.lookup ?_)
  show wpAny _ _ (if (some (Value.builtin "set.__contains__") == some Value.none) = true then _ else _) _ E s
  rw [if_neg (by rw [beq_builtin_none]; exact Bool.false_ne_true)]
  refine wpAny_bind (wpAny_callSpecialUnlessNone?_slot (name := Str.ofString "__contains__") hT F.slot_set_contains (wpAny_call_entry F.slot_set_contains hT entry_set_contains ?_ (F.args_set_contains_2 _ _)))
  unfold Builtin.«frozenset.__contains__» Builtin.Frozenset.oneOther
  simp only [List.isEmpty_nil, bind_assoc]
  unfold Builtin.Frozenset.addrOf Builtin.Frozenset.withSetAsKey setContains
  refine wpAny_bind (wpAny_pure ?_)
  try dsimp only
  refine wpAny_bind (wpAny_pure ?_)
  try dsimp only
  refine wpAny_bind (wpAny_tryCatch ?_)
  refine wpAny_holding ?_
  have hu1 : A.in1.units < cLine := Nat.lt_of_le_of_lt (show A.in1.units ≤ A.units + 64 from by show A.units + 1 ≤ A.units + 64; omega) hu
  refine wpAny_bind (wpAny_pyHash_tuple (A := A.in1) hu1 hx ?_)
  refine wpAny_bind (find_at (s := { s with toks := s.toks + (k.length + 1) }) R hx hu1 fun r hr => ?_)
  refine wpAny_pure ?_
  show wpAny _ _ (ret (Value.bool r.isSome)) _ _ _
  rw [hr]
  exact wpAny_pure ⟨_, rfl, wpAny_truthy_bool (wpAny_pure h)⟩
end
def rInSetT (K : PySem.W.Frag) (P : Program) (w : World) : R2 := fun x y H Q => ∃ (a b : Addr) (L : List (Addr × List Int)) (k : List Int), x = .ref b ∧ y = .ref a ∧ H a = some (SetTO P w a L) ∧ (∀ p ∈ L, SqT K H p.1 (p.2.map V.int)) ∧ SqT K H b (k.map V.int) ∧ Q (.bl (decide (k ∈ L.map (·.2)))) H
theorem op_inSetT {X : Cx} (hu : X.A.units + 64 < cLine) : OpR X (compareOp .In) (rInSetT X.K X.prog X.w) := by
  intro pins s σ H x y v u Q I rx ry h
  obtain ⟨a, b, L, k, rfl, rfl, ha, hL, hb, q⟩ := h
  cases rx
  cases ry
  obtain ⟨es, ep, t, R⟩ := SetT0.full (I.hok a _ ha).1 fun p hp => I.isT (hL p hp)
  exact in_setT R (I.isT hb) hu ⟨.bl _, H, I.tok _, rfl, q⟩
end L2
set_option Elab.async false
set_option linter.all false
set_option maxRecDepth 100000
set_option maxHeartbeats 2000000
namespace L2
open PySem PySem.Spec PyProof.Rows
/-! ### len(set(xs)), a list or a tuple of unlike ints -/
def tLenSet2 (K : PySem.W.Frag) (ta : TE) : TE := fun σ H Q => ta σ H fun x H1 => ∃ (l : Addr) (ns : List Int), x = V.ref l ∧ (SqL K H1 l (ns.map V.int) ∨ SqT K H1 l (ns.map V.int)) ∧ ns.length < 64 ∧ ns.Nodup ∧ Q (.int ns.length) H1
theorem pe_lenSet2 {X : Cx} {a : Expr} {ta : TE} {p p2 q pos : Pos} (hc : X.calm = true) (hg : Gl X "len") (hm : X.mg "len" = none) (hg2 : Gl X "set") (hm2 : X.mg "set" = none) (ha : PE X a ta)
    (na : starEach [a] X.env = (false, eval a X.env) :: starEach [] X.env := by rfl) : PE X (.Call (.Name "len" p) [.Call (.Name "set" p2) [a] [] q] [] pos) (tLenSet2 X.K ta) := by
  refine ⟨fun pins s σ H Q I h => ?_⟩
  refine Call_ (ld_blt I hg hm PySem.boot_len (PyProof.Rows.callWith_builtin1 (PyProof.Rows.args_cons ?_ rfl) rfl rfl))
  refine Call_ (ld_blt I hg2 hm2 PyProof.Rows.boot_set (PyProof.Rows.callWith_type1 (PyProof.Rows.args_cons (thn (ha.run pins s σ H _ I h) fun v s1 ⟨x, H1, I1, r1, q1⟩ => PyProof.Rows.args_nil ?_) na) na rfl))
  obtain ⟨l, ns, rfl, hq, few, nd, q1⟩ := q1
  cases r1
  have hd := I1.ok.hd hc
  rcases hq with hq | hq
  · obtain ⟨its, r, pl, hz⟩ := I1.list hq
    have hl : its.toArray.size = ns.length := by rw [List.size_toArray, ← r.length, List.length_map]
    refine call_set_list hd pl.isList (ns := ns) (by simpa using r.ints) (by unfold scanBound; omega) fun h' tk S k => ?_
    rw [hl, firstMet_nodup ns nd ns.length (Nat.le_refl _), List.take_length] at S
    obtain ⟨o, es, ep, t, ho, hex, hdt, _, _, _, hf, hn⟩ := S
    have I2 : Inv X pins σ H1 { s1 with heap := h', toks := tk } := I1.kept fun b o e => k b o (Heap.lt_size e) e
    exact PyProof.Rows.args_nil (call_len_set ho hex hdt hf (by rw [hn] <;> omega) ⟨.int ns.length, H1, I2.tok _, ⟨_, by rw [hn]⟩, q1⟩)
  · obtain ⟨its, rv, pt, hz⟩ := I1.tuple hq
    refine call_set_tupI ns hd (show s1.heap.IsTuple l its.toArray from pt) (ints_of_vals rv) (by unfold scanBound; omega) fun h' tk c R1 hcn k => ?_
    obtain ⟨o, es, ep, t, ho, hex, hdt, g, ndk, hm2, hb, hf, hn, hr, hl2⟩ := R1
    have pm : (es.toList.map keyOf).Perm ns := by
      refine (List.perm_ext_iff_of_nodup ndk nd).mpr fun j => ?_
      rw [← hm2 j, decide_eq_true_eq]
    have hsz : es.size = ns.length := by
      have := pm.length_eq
      rw [List.length_map, Array.length_toList] at this
      exact this
    have I2 : Inv X pins σ H1 { s1 with heap := h', toks := tk } := I1.kept k
    exact PyProof.Rows.args_nil (call_len_set ho hex hdt hf (by rw [hsz] <;> omega) ⟨.int ns.length, H1, I2.tok _, ⟨_, by rw [hsz]⟩, q1⟩)
end L2
set_option Elab.async false
set_option linter.all false
set_option maxRecDepth 100000
set_option maxHeartbeats 2000000
namespace Y
open PySem L2
/-! ### all but one object stands -/
def But (p : Addr) (H H' : Hp) : Prop := ∀ b o, b ≠ p → H b = some o → H' b = some o
theorem But.refl (p : Addr) (H : Hp) : But p H H := fun _ _ _ h => h
theorem But.trans {p : Addr} {H H1 H2 : Hp} (a : But p H H1) (b : But p H1 H2) : But p H H2 := fun c o n h => b c o n (a c o n h)
theorem But.upd {p : Addr} {H : Hp} {o : HO} : But p H (upd H p o) := fun b u n h => by rw [upd_ne n]; exact h
theorem But.of_same {p : Addr} {H H' : Hp} (s : Same H H') : But p H H' := fun b o _ h => s b o h
theorem Same.new {H : Hp} {a : Addr} {o : HO} (h : H a = none) : Same H (upd H a o) := fun b u e => by
  rw [upd_ne (ne_of_none e h)]
  exact e
/-! ### the pen's dict -/
def penD (l : Addr) (a g c f : Int) : List (Key × V) :=
  [(Sum.inr "cells", .ref l), (Sum.inr "at", .int a), (Sum.inr "digits", .int g), (Sum.inr "count", .int c), (Sum.inr "fold", .int f)]
theorem k12 : ¬ ((Sum.inr ("cells" : Str) : Key) = Sum.inr ("at" : Str)) := by decide +kernel
theorem k13 : ¬ ((Sum.inr ("cells" : Str) : Key) = Sum.inr ("digits" : Str)) := by decide +kernel
theorem k14 : ¬ ((Sum.inr ("cells" : Str) : Key) = Sum.inr ("count" : Str)) := by decide +kernel
theorem k15 : ¬ ((Sum.inr ("cells" : Str) : Key) = Sum.inr ("fold" : Str)) := by decide +kernel
theorem k21 : ¬ ((Sum.inr ("at" : Str) : Key) = Sum.inr ("cells" : Str)) := by decide +kernel
theorem k23 : ¬ ((Sum.inr ("at" : Str) : Key) = Sum.inr ("digits" : Str)) := by decide +kernel
theorem k24 : ¬ ((Sum.inr ("at" : Str) : Key) = Sum.inr ("count" : Str)) := by decide +kernel
theorem k25 : ¬ ((Sum.inr ("at" : Str) : Key) = Sum.inr ("fold" : Str)) := by decide +kernel
theorem k31 : ¬ ((Sum.inr ("digits" : Str) : Key) = Sum.inr ("cells" : Str)) := by decide +kernel
theorem k32 : ¬ ((Sum.inr ("digits" : Str) : Key) = Sum.inr ("at" : Str)) := by decide +kernel
theorem k34 : ¬ ((Sum.inr ("digits" : Str) : Key) = Sum.inr ("count" : Str)) := by decide +kernel
theorem k35 : ¬ ((Sum.inr ("digits" : Str) : Key) = Sum.inr ("fold" : Str)) := by decide +kernel
theorem k41 : ¬ ((Sum.inr ("count" : Str) : Key) = Sum.inr ("cells" : Str)) := by decide +kernel
theorem k42 : ¬ ((Sum.inr ("count" : Str) : Key) = Sum.inr ("at" : Str)) := by decide +kernel
theorem k43 : ¬ ((Sum.inr ("count" : Str) : Key) = Sum.inr ("digits" : Str)) := by decide +kernel
theorem k45 : ¬ ((Sum.inr ("count" : Str) : Key) = Sum.inr ("fold" : Str)) := by decide +kernel
theorem k51 : ¬ ((Sum.inr ("fold" : Str) : Key) = Sum.inr ("cells" : Str)) := by decide +kernel
theorem k52 : ¬ ((Sum.inr ("fold" : Str) : Key) = Sum.inr ("at" : Str)) := by decide +kernel
theorem k53 : ¬ ((Sum.inr ("fold" : Str) : Key) = Sum.inr ("digits" : Str)) := by decide +kernel
theorem k54 : ¬ ((Sum.inr ("fold" : Str) : Key) = Sum.inr ("count" : Str)) := by decide +kernel
section
variable {l : Addr} {a g c f z : Int}
theorem pen_cells : valV (penD l a g c f) (Sum.inr "cells") = some (.ref l) := valV_pos rfl
theorem pen_at : valV (penD l a g c f) (Sum.inr "at") = some (.int a) := by
  rw [penD, valV_neg k12, valV_pos rfl]
theorem pen_digits : valV (penD l a g c f) (Sum.inr "digits") = some (.int g) := by
  rw [penD, valV_neg k13, valV_neg k23, valV_pos rfl]
theorem pen_count : valV (penD l a g c f) (Sum.inr "count") = some (.int c) := by
  rw [penD, valV_neg k14, valV_neg k24, valV_neg k34, valV_pos rfl]
theorem pen_fold : valV (penD l a g c f) (Sum.inr "fold") = some (.int f) := by
  rw [penD, valV_neg k15, valV_neg k25, valV_neg k35, valV_neg k45, valV_pos rfl]
theorem put_at : putK (penD l a g c f) (Sum.inr "at") (.int z) = penD l z g c f := by
  unfold putK
  rw [if_pos (by rw [valV_any, pen_at]; rfl)]
  simp only [penD, List.map_cons, List.map_nil, if_neg k12, if_neg k32, if_neg k42, if_neg k52, if_pos]
theorem put_digits : putK (penD l a g c f) (Sum.inr "digits") (.int z) = penD l a z c f := by
  unfold putK
  rw [if_pos (by rw [valV_any, pen_digits]; rfl)]
  simp only [penD, List.map_cons, List.map_nil, if_neg k13, if_neg k23, if_neg k43, if_neg k53, if_pos]
theorem put_count : putK (penD l a g c f) (Sum.inr "count") (.int z) = penD l a g z f := by
  unfold putK
  rw [if_pos (by rw [valV_any, pen_count]; rfl)]
  simp only [penD, List.map_cons, List.map_nil, if_neg k14, if_neg k24, if_neg k34, if_neg k54, if_pos]
theorem put_fold : putK (penD l a g c f) (Sum.inr "fold") (.int z) = penD l a g c z := by
  unfold putK
  rw [if_pos (by rw [valV_any, pen_fold]; rfl)]
  simp only [penD, List.map_cons, List.map_nil, if_neg k15, if_neg k25, if_neg k35, if_neg k45, if_pos]
end
/-- the pen at p, b more draws being allowed -/
structure Pen (H : Hp) (p l : Addr) (b : Nat) : Prop where
  ex : ∃ (ns : List Int) (a g c f : Int), H p = some (.dK (penD l a g c f)) ∧ H l = some (.lst (ns.map V.int)) ∧ ns.length ≤ 63 ∧
    0 ≤ a ∧ 0 ≤ g ∧ 0 ≤ c ∧ c + (b : Int) ≤ 2 ^ 40 ∧ 0 ≤ f ∧ f < 2147483587
theorem Pen.less {H : Hp} {p l : Addr} {b b' : Nat} (h : Pen H p l b) (hb : b' ≤ b) : Pen H p l b' := by
  obtain ⟨ns, a, g, c, f, h1, h2, h3, h4, h5, h6, h7, h8, h9⟩ := h.ex
  exact ⟨ns, a, g, c, f, h1, h2, h3, h4, h5, h6, by omega, h8, h9⟩
theorem Pen.there {H : Hp} {p l : Addr} {b : Nat} (h : Pen H p l b) : ∃ kvs, H p = some (.dK kvs) := by
  obtain ⟨ns, a, g, c, f, h1, _⟩ := h.ex
  exact ⟨_, h1⟩
theorem Pen.cells {H : Hp} {p l : Addr} {b : Nat} (h : Pen H p l b) : ∃ vs, H l = some (.lst vs) := by
  obtain ⟨ns, a, g, c, f, _, h2, _⟩ := h.ex
  exact ⟨_, h2⟩
theorem Pen.same {H H' : Hp} {p l : Addr} {b : Nat} (h : Pen H p l b) (s : Same H H') : Pen H' p l b := by
  obtain ⟨ns, a, g, c, f, h1, h2, h3⟩ := h.ex
  exact ⟨ns, a, g, c, f, s _ _ h1, s _ _ h2, h3⟩
theorem Pen.upd {H : Hp} {p l x : Addr} {o : HO} {b : Nat} (h : Pen H p l b) (n1 : p ≠ x) (n2 : l ≠ x) : Pen (upd H x o) p l b := by
  obtain ⟨ns, a, g, c, f, h1, h2, h3⟩ := h.ex
  exact ⟨ns, a, g, c, f, by rw [upd_ne n1]; exact h1, by rw [upd_ne n2]; exact h2, h3⟩
/-- what is new is neither the pen nor its cells -/
theorem Pen.off {H : Hp} {p l x : Addr} {b : Nat} (h : Pen H p l b) (n : H x = none) : p ≠ x ∧ l ≠ x := by
  obtain ⟨kvs, h1⟩ := h.there
  obtain ⟨vs, h2⟩ := h.cells
  exact ⟨ne_of_none h1 n, ne_of_none h2 n⟩
/-! ### the promises -/
def spPen (K : PySem.W.Frag) : Sp := fun vs H Q _ => ∃ (a : Addr) (ns : List Int), vs = [.ref a] ∧ SqL K H a (ns.map V.int) ∧ ns.length ≤ 63 ∧
  ∀ (p l : Addr) (H' : Hp), Pen H' p l (2 ^ 40) → Same H H' → H p = none → Q (.ref p) H'
def spDraw : Sp := fun vs H Q _ => ∃ (p l : Addr) (m : Int) (b : Nat), vs = [.ref p, .int m] ∧ Pen H p l (b + 1) ∧ 0 < m ∧ m ≤ 2 ^ 40 ∧
  ∀ (n : Int) (H' : Hp), 0 ≤ n → n < m → Pen H' p l b → But p H H' → Q (.int n) H'
def spPick (K : PySem.W.Frag) : Sp := fun vs H Q _ => ∃ (p l s : Addr) (xs : List V) (b : Nat), vs = [.ref p, .ref s] ∧ Pen H p l (b + 1) ∧ (SqL K H s xs ∨ SqT K H s xs) ∧ xs ≠ [] ∧ xs.length ≤ 1000000 ∧
  ∀ (x : V) (i : Nat) (H' : Hp), xs[i]? = some x → Pen H' p l b → But p H H' → Q x H'
theorem pen_merge {l : Addr} {a g c f : Int} : mergeK [] (penD l a g c f) = penD l a g c f := by
  show putK (putK (putK (putK (putK ([]) (Sum.inr "cells" : Key) (V.ref l)) (Sum.inr "at" : Key) (V.int a)) (Sum.inr "digits" : Key) (V.int g)) (Sum.inr "count" : Key) (V.int c)) (Sum.inr "fold" : Key) (V.int f) = penD l a g c f
  have e1 : putK ([] : List (Key × V)) (Sum.inr "cells" : Key) (V.ref l) = [((Sum.inr "cells" : Key), V.ref l)] := putK_new _ rfl
  have e2 : putK [((Sum.inr "cells" : Key), V.ref l)] (Sum.inr "at" : Key) (V.int a) = [((Sum.inr "cells" : Key), V.ref l), ((Sum.inr "at" : Key), V.int a)] := putK_new _ (by rw [valV_neg k12]; rfl)
  have e3 : putK [((Sum.inr "cells" : Key), V.ref l), ((Sum.inr "at" : Key), V.int a)] (Sum.inr "digits" : Key) (V.int g) = [((Sum.inr "cells" : Key), V.ref l), ((Sum.inr "at" : Key), V.int a), ((Sum.inr "digits" : Key), V.int g)] := putK_new _ (by rw [valV_neg k13, valV_neg k23]; rfl)
  have e4 : putK [((Sum.inr "cells" : Key), V.ref l), ((Sum.inr "at" : Key), V.int a), ((Sum.inr "digits" : Key), V.int g)] (Sum.inr "count" : Key) (V.int c) = [((Sum.inr "cells" : Key), V.ref l), ((Sum.inr "at" : Key), V.int a), ((Sum.inr "digits" : Key), V.int g), ((Sum.inr "count" : Key), V.int c)] := putK_new _ (by rw [valV_neg k14, valV_neg k24, valV_neg k34]; rfl)
  have e5 : putK [((Sum.inr "cells" : Key), V.ref l), ((Sum.inr "at" : Key), V.int a), ((Sum.inr "digits" : Key), V.int g), ((Sum.inr "count" : Key), V.int c)] (Sum.inr "fold" : Key) (V.int f) = [((Sum.inr "cells" : Key), V.ref l), ((Sum.inr "at" : Key), V.int a), ((Sum.inr "digits" : Key), V.int g), ((Sum.inr "count" : Key), V.int c), ((Sum.inr "fold" : Key), V.int f)] := putK_new _ (by rw [valV_neg k15, valV_neg k25, valV_neg k35, valV_neg k45]; rfl)
  rw [e1, e2, e3, e4, e5]
  rfl
theorem pen_small {l : Addr} {a g c f : Int} : (penD l a g c f).length < sizeLine := by show 5 < sizeLine; decide
section
variable {H : Hp} {p l : Addr} {a g c f z : Int}
theorem get_cells (e : H p = some (.dK (penD l a g c f))) : DGet H p (.str "cells") (some (.ref l)) := .inl ⟨_, Sum.inr "cells", .inl e, rfl, pen_cells.symm⟩
theorem get_at (e : H p = some (.dK (penD l a g c f))) : DGet H p (.str "at") (some (.int a)) := .inl ⟨_, Sum.inr "at", .inl e, rfl, pen_at.symm⟩
theorem get_digits (e : H p = some (.dK (penD l a g c f))) : DGet H p (.str "digits") (some (.int g)) := .inl ⟨_, Sum.inr "digits", .inl e, rfl, pen_digits.symm⟩
theorem get_count (e : H p = some (.dK (penD l a g c f))) : DGet H p (.str "count") (some (.int c)) := .inl ⟨_, Sum.inr "count", .inl e, rfl, pen_count.symm⟩
theorem get_fold (e : H p = some (.dK (penD l a g c f))) : DGet H p (.str "fold") (some (.int f)) := .inl ⟨_, Sum.inr "fold", .inl e, rfl, pen_fold.symm⟩
theorem dput_count (e : H p = some (.dK (penD l a g c f))) : DPut H p (.str "count") (.int z) (upd H p (.dK (penD l a g z f))) := .inl ⟨_, Sum.inr "count", e, rfl, pen_small, by rw [put_count]⟩
theorem dput_at : DPut (upd H p (.dK (penD l a g c f))) p (.str "at") (.int z) (upd H p (.dK (penD l z g c f))) := .inl ⟨_, Sum.inr "at", upd_same, rfl, pen_small, by rw [put_at, upd_upd]⟩
theorem dput_digits : DPut (upd H p (.dK (penD l a g c f))) p (.str "digits") (.int z) (upd H p (.dK (penD l a z c f))) := .inl ⟨_, Sum.inr "digits", upd_same, rfl, pen_small, by rw [put_digits, upd_upd]⟩
theorem dput_fold : DPut (upd H p (.dK (penD l a g c f))) p (.str "fold") (.int z) (upd H p (.dK (penD l a g c z))) := .inl ⟨_, Sum.inr "fold", upd_same, rfl, pen_small, by rw [put_fold, upd_upd]⟩
end
theorem But.keep {p : Addr} {H H' : Hp} {a : Addr} {o u : HO} (s : But p H H') (hp : H p = some u) (h : H a = some o) (d : o ≠ u) : H' a = some o := s a o (fun e => d (by rw [e, hp] at h; exact (Option.some.inj h).symm)) h
theorem ints_at {ns : List Int} {i : Nat} {y : V} (h : (ns.map V.int)[i]? = some y) : ∃ z, ns[i]? = some z ∧ y = V.int z := by
  rw [List.getElem?_map] at h
  cases e : ns[i]? with
  | none => rw [e] at h; cases h
  | some z => rw [e] at h; exact ⟨z, rfl, (Option.some.inj h).symm⟩
end Y
namespace Y
open PySem L2
theorem atI_int {α : Type} {xs : List α} {i : Int} {v : α} (h0 : 0 ≤ i) (h : xs[i.toNat]? = some v) : atI xs i = some v := by
  have := atI_nat h
  rwa [show ((i.toNat : Nat) : Int) = i by omega] at this
/-- an item that is there -/
theorem there_int {α : Type} {xs : List α} {i : Int} (h0 : 0 ≤ i) (h1 : i < (xs.length : Int)) : ∃ v, xs[i.toNat]? = some v ∧ atI xs i = some v := by
  have h : i.toNat < xs.length := by omega
  exact ⟨xs[i.toNat], List.getElem?_eq_getElem h, atI_int h0 (List.getElem?_eq_getElem h)⟩
theorem But.seq {K : PySem.W.Frag} {p : Addr} {H H' : Hp} {a : Addr} {xs : List V} {kvs : List (Key × V)} (e : But p H H') (hp : H p = some (.dK kvs)) (h : SqL K H a xs) : SqL K H' a xs := by
  rcases h with (h | ⟨o, h⟩) | h
  · exact .inl (.inl (e.keep hp h (by intro z; cases z)))
  · exact .inl (.inr ⟨o, e.keep hp h (by intro z; cases z)⟩)
  · exact .inr h
theorem But.seqT {K : PySem.W.Frag} {p : Addr} {H H' : Hp} {a : Addr} {xs : List V} {kvs : List (Key × V)} (e : But p H H') (hp : H p = some (.dK kvs)) (h : SqT K H a xs) : SqT K H' a xs := by
  rcases h with (h | ⟨o, h⟩) | h
  · exact .inl (.inl (e.keep hp h (by intro z; cases z)))
  · exact .inl (.inr ⟨o, e.keep hp h (by intro z; cases z)⟩)
  · exact .inr h
end Y
set_option Elab.async false
set_option linter.all false
set_option maxRecDepth 100000
set_option maxHeartbeats 2000000
namespace Y
open PySem PySem.Spec PyProof.Rows L2
/-! ### all but dicts stands -/
def Kp (H H' : Hp) : Prop := ∀ b o, H b = some o → (∀ kvs, o ≠ .dK kvs) → H' b = some o
theorem Kp.refl (H : Hp) : Kp H H := fun _ _ h _ => h
theorem Kp.trans {H H1 H2 : Hp} (a : Kp H H1) (b : Kp H1 H2) : Kp H H2 := fun c o h n => b c o (a c o h n) n
theorem Kp.of_same {H H' : Hp} (s : Same H H') : Kp H H' := fun b o h _ => s b o h
theorem Kp.of_but {p : Addr} {H H' : Hp} {kvs : List (Key × V)} (s : But p H H') (h : H p = some (.dK kvs)) : Kp H H' := fun b o e n => s b o (fun z => n kvs (by rw [z, h] at e; exact (Option.some.inj e).symm)) e
theorem Kp.new {H : Hp} {a : Addr} {o : HO} (h : H a = none) : Kp H (upd H a o) := .of_same (Same.new h)
/-- a store at an object that is new -/
theorem Kp.upd {H H' : Hp} {a : Addr} {o : HO} (s : Kp H H') (h : H a = none) : Kp H (upd H' a o) := fun b u e n => by rw [upd_ne (ne_of_none e h)]; exact s b u e n
section
variable {K : PySem.W.Frag} {H H' : Hp}
theorem Kp.lst {a : Addr} {xs : List V} (s : Kp H H') (h : H a = some (.lst xs)) : H' a = some (.lst xs) := s _ _ h fun _ z => by cases z
theorem Kp.tup {a : Addr} {xs : List V} (s : Kp H H') (h : H a = some (.tup xs)) : H' a = some (.tup xs) := s _ _ h fun _ z => by cases z
theorem Kp.seqT {a : Addr} {xs : List V} (s : Kp H H') (h : SqT K H a xs) : SqT K H' a xs := by
  rcases h with (h | ⟨o, h⟩) | h
  · exact .inl (.inl (s _ _ h fun _ z => by cases z))
  · exact .inl (.inr ⟨o, s _ _ h fun _ z => by cases z⟩)
  · exact .inr h
theorem Kp.seqL {a : Addr} {xs : List V} (s : Kp H H') (h : SqL K H a xs) : SqL K H' a xs := by
  rcases h with (h | ⟨o, h⟩) | h
  · exact .inl (.inl (s _ _ h fun _ z => by cases z))
  · exact .inl (.inr ⟨o, s _ _ h fun _ z => by cases z⟩)
  · exact .inr h
theorem Kp.seq {a : Addr} {xs : List V} (s : Kp H H') (h : SqL K H a xs ∨ SqT K H a xs) : SqL K H' a xs ∨ SqT K H' a xs := h.imp s.seqL s.seqT
mutual
theorem Kp.dp (s : Kp H H') : ∀ {v : V} {d : PyData}, Dp K H v d → Dp K H' v d
  | _, _, .non => .non
  | _, _, .bl b => .bl b
  | _, _, .int i => .int i
  | _, _, .str x => .str x
  | _, _, .lst h t => .lst (s.seqL h) (Kp.dpAll s t)
  | _, _, .tup h t => .tup (s.seqT h) (Kp.dpAll s t)
theorem Kp.dpAll (s : Kp H H') : ∀ {vs : List V} {ds : List PyData}, DpAll K H vs ds → DpAll K H' vs ds
  | _, _, .nil => .nil
  | _, _, .cons h t => .cons (Kp.dp s h) (Kp.dpAll s t)
end
end
theorem erase_perm {α : Type} : ∀ {l : List α} {k : Nat} {y : α}, l[k]? = some y → (y :: l.eraseIdx k).Perm l
  | [], k, y, h => by simp at h
  | a :: l, 0, y, h => by cases Option.some.inj h; exact .refl _
  | a :: l, k + 1, y, h => (List.Perm.swap a y _).trans ((erase_perm (l := l) (k := k) (y := y) h).cons a)
theorem pop_perm {α : Type} {f l xs : List α} {k : Nat} {y : α} (h : l[k]? = some y) (p : (f ++ l).Perm xs) : ((f ++ [y]) ++ l.eraseIdx k).Perm xs := by
  rw [List.append_assoc]
  exact ((erase_perm h).append_left f).trans p
theorem get_of_lt {α : Type} {l : List α} {n : Int} (h0 : 0 ≤ n) (h1 : n < l.length) : ∃ y, l[n.toNat]? = some y := ⟨l[n.toNat]'(by omega), List.getElem?_eq_getElem (by omega)⟩
end Y
set_option Elab.async false
set_option linter.all false
set_option maxRecDepth 100000
set_option maxHeartbeats 2000000
/-! comprehensions whose items are reckoned without a trace: the new list holds the values in order -/
namespace Y
open PySem PySem.Spec PyProof.Rows L2
theorem take_next {α : Type} : ∀ {l : List α} {i : Nat} {x : α}, l[i]? = some x → l.take (i + 1) = l.take i ++ [x]
  | [], i, x, h => by simp at h
  | a :: l, 0, x, h => by
    cases Option.some.inj h
    rfl
  | a :: l, i + 1, x, h => by
    have ih := take_next (l := l) (i := i) (x := x) h
    show a :: l.take (i + 1) = a :: l.take i ++ [x]
    rw [ih]
    rfl
section
variable {K : PySem.W.Frag} {a D : Addr} {xs : List V} {g : TG} {te : TE} {vs : List Nat} {σ : L2.St} {H1 : Hp} {Qd : Hp → Prop} {f : V → V}
/-- over a list -/
theorem lcp_list (hn : H1 D = none) (hz : xs.length ≤ 1000000) (ha : SqL K H1 a xs)
    (he : ∀ (i : Nat) (x : V) (H : Hp) (R : VK), xs[i]? = some x → Same H1 H → R (f x) H → g x (wipe σ vs) H fun σ2 H2 => wipe σ2 vs = wipe σ vs ∧ te σ2 H2 R) (hd : Qd (upd H1 D (.lst (xs.map f)))) :
    ∃ W : Nat → Nat → Hp → Prop, (∃ m, W 0 m (upd H1 D (.lst []))) ∧ ∀ i m H, W i m H →
      ((Itl K a).stop i H ∧ Qd H) ∨ ((Itl K a).go i H ∧ ∃ Nx : Hp → Prop, (∀ H', Nx H' → ∃ m', m' < m ∧ W (i + 1) m' H') ∧ ∀ x H', (Itl K a).yld i H x H' → g x (wipe σ vs) H' fun σ2 H2 => wipe σ2 vs = wipe σ vs ∧ tYes σ2 H2 fun b H3 =>
        if b = true then te σ2 H3 fun y H4 => ∃ acc, H4 D = some (.lst acc) ∧ acc.length < sizeLine ∧ Nx (upd H4 D (.lst (acc ++ [y]))) else Nx H3) := by
  refine lc_list (K := K) (a := a) (xs := xs) (fun i H => H = upd H1 D (.lst ((xs.take i).map f))) rfl (fun i H _ e => ?_) (fun i x H hi e => ?_) (fun H e => ?_)
  · rw [e]
    exact (Y.Same.new hn).seq ha
  · subst e
    refine he i x _ _ hi (Y.Same.new hn) ⟨(xs.take i).map f, upd_same, ?_, ?_⟩
    · rw [List.length_map, List.length_take]
      have : sizeLine = 16777216 := sizeLine_eq
      omega
    · rw [upd_upd, take_next hi, List.map_append]
      rfl
  · rw [e, List.take_length]
    exact hd
/-- over a tuple -/
theorem lcp_tup (hn : H1 D = none) (hz : xs.length ≤ 1000000) (ha : SqT K H1 a xs) (hS : ∀ H', Same H1 H' → SqT K H' a xs)
    (he : ∀ (i : Nat) (x : V) (H : Hp) (R : VK), xs[i]? = some x → Same H1 H → R (f x) H → g x (wipe σ vs) H fun σ2 H2 => wipe σ2 vs = wipe σ vs ∧ te σ2 H2 R) (hd : Qd (upd H1 D (.lst (xs.map f)))) :
    ∃ W : Nat → Nat → Hp → Prop, (∃ m, W 0 m (upd H1 D (.lst []))) ∧ ∀ i m H, W i m H →
      ((Itt K a).stop i H ∧ Qd H) ∨ ((Itt K a).go i H ∧ ∃ Nx : Hp → Prop, (∀ H', Nx H' → ∃ m', m' < m ∧ W (i + 1) m' H') ∧ ∀ x H', (Itt K a).yld i H x H' → g x (wipe σ vs) H' fun σ2 H2 => wipe σ2 vs = wipe σ vs ∧ tYes σ2 H2 fun b H3 =>
        if b = true then te σ2 H3 fun y H4 => ∃ acc, H4 D = some (.lst acc) ∧ acc.length < sizeLine ∧ Nx (upd H4 D (.lst (acc ++ [y]))) else Nx H3) := by
  refine lc_tup (K := K) (a := a) (xs := xs) (fun i H => H = upd H1 D (.lst ((xs.take i).map f))) rfl (fun i H _ e => ?_) (fun i x H hi e => ?_) (fun H e => ?_)
  · rw [e]
    exact hS _ (Y.Same.new hn)
  · subst e
    refine he i x _ _ hi (Y.Same.new hn) ⟨(xs.take i).map f, upd_same, ?_, ?_⟩
    · rw [List.length_map, List.length_take]
      have : sizeLine = 16777216 := sizeLine_eq
      omega
    · rw [upd_upd, take_next hi, List.map_append]
      rfl
  · rw [e, List.take_length]
    exact hd
/-- over a text, sign by sign -/
theorem lcp_str {t : Str} {f : Nat → V} (hn : H1 D = none) (hz : t.cps.size ≤ 1000000)
    (he : ∀ (i c : Nat) (H : Hp) (R : VK), t.cps[i]? = some c → Same H1 H → R (f c) H → g (.str ⟨#[c]⟩) (wipe σ vs) H fun σ2 H2 => wipe σ2 vs = wipe σ vs ∧ te σ2 H2 R) (hd : Qd (upd H1 D (.lst (t.cps.toList.map f)))) :
    ∃ W : Nat → Nat → Hp → Prop, (∃ m, W 0 m (upd H1 D (.lst []))) ∧ ∀ i m H, W i m H →
      ((Its t).stop i H ∧ Qd H) ∨ ((Its t).go i H ∧ ∃ Nx : Hp → Prop, (∀ H', Nx H' → ∃ m', m' < m ∧ W (i + 1) m' H') ∧ ∀ x H', (Its t).yld i H x H' → g x (wipe σ vs) H' fun σ2 H2 => wipe σ2 vs = wipe σ vs ∧ tYes σ2 H2 fun b H3 =>
        if b = true then te σ2 H3 fun y H4 => ∃ acc, H4 D = some (.lst acc) ∧ acc.length < sizeLine ∧ Nx (upd H4 D (.lst (acc ++ [y]))) else Nx H3) := by
  refine ⟨fun i m H => m = t.cps.size - i ∧ i ≤ t.cps.size ∧ H = upd H1 D (.lst ((t.cps.toList.take i).map f)), ⟨t.cps.size, by simp, Nat.zero_le _, rfl⟩, ?_⟩
  rintro i m H ⟨rfl, hi, rfl⟩
  by_cases c : i < t.cps.size
  · refine .inr ⟨c, fun H => H = upd H1 D (.lst ((t.cps.toList.take (i + 1)).map f)), fun H' e => ⟨t.cps.size - (i + 1), by omega, rfl, c, e⟩, ?_⟩
    rintro x H' ⟨rfl, d, hd', rfl⟩
    refine he i d _ _ hd' (Y.Same.new hn) ⟨_, upd_same, ?_, ?_⟩
    · rw [List.length_map]
      have : sizeLine = 16777216 := sizeLine_eq
      have := List.length_take_le i t.cps.toList
      omega
    · have e : t.cps.toList[i]? = some d := by rw [Array.getElem?_toList]; exact hd'
      rw [upd_upd, take_next e, List.map_append]
      rfl
  · refine .inl ⟨by show t.cps.size ≤ i; omega, ?_⟩
    rw [List.take_of_length_le (by rw [Array.length_toList]; omega)]
    exact hd
end
theorem Same.seqT {K : PySem.W.Frag} {H H' : Hp} {a : Addr} {xs : List V} (e : Same H H') (h : SqT K H a xs) : SqT K H' a xs := by
  rcases h with (h | ⟨o, h⟩) | h
  · exact .inl (.inl (e _ _ h))
  · exact .inl (.inr ⟨o, e _ _ h⟩)
  · exact .inr h
end Y
namespace Y
open PySem PySem.Spec PyProof.Rows L2
section
variable {X : Cx} {x : Str} {pos : Pos}
/-- a name of the module: an int, a text, an object -/
theorem pgI {i : Int} {t : Tok} (hm : X.mg x = some (.int i t)) (hg : Gl X x := by rfl) (hd : (x == ("__debug__" : Str)) = false := by decide) : PE X (.Name x pos) (tC (.int i)) := pe_glob (v := .int i) hg hm ⟨_, rfl⟩ hd
theorem pgS {z : Str} {t : Tok} (hm : X.mg x = some (.str z t)) (hg : Gl X x := by rfl) (hd : (x == ("__debug__" : Str)) = false := by decide) : PE X (.Name x pos) (tC (.str z)) := pe_glob (v := .str z) hg hm ⟨_, rfl⟩ hd
theorem pgR {a : Addr} (hm : X.mg x = some (.ref a)) (hg : Gl X x := by rfl) (hd : (x == ("__debug__" : Str)) = false := by decide) : PE X (.Name x pos) (tC (.ref a)) := pe_glob (v := .ref a) hg hm rfl hd
/-- a built-in class as a value -/
theorem pbT {n : String} (hm : X.mg x = none) (hv : bootBuiltins x = some (.type n)) (hg : Gl X x := by rfl) (hn : x ≠ "__name__" := by decide) (hd : (x == ("__debug__" : Str)) = false := by decide) : PE X (.Name x pos) (tC (.ty n)) := pe_bltn (v := .ty n) hg hm hv rfl hn hd
end
theorem ifT {c : Bool} {A B : Prop} (h : c = true → A) (h2 : c = false → B) : if c = true then A else B := by
  cases c with
  | true => rw [if_pos rfl]; exact h rfl
  | false => rw [if_neg Bool.false_ne_true]; exact h2 rfl
theorem len_cps (t : Str) : t.cps.toList.length = t.length := by simp [Str.length]
theorem small_line {n : Nat} (h : n ≤ 1000) : n ≤ sizeLine := Nat.le_trans h (by decide)
end Y
set_option Elab.async false
set_option linter.all false
set_option maxRecDepth 100000
set_option maxHeartbeats 2000000
namespace Y
open PySem PySem.Spec PyProof.Rows L2
/-! ### walks over a variable that holds a list or a tuple, whichever it is -/
abbrev SqA (K : PySem.W.Frag) (H : Hp) (a : Addr) (xs : List V) : Prop := SqL K H a xs ∨ SqT K H a xs
theorem Same.refl' (H : Hp) : Same H H := fun _ _ h => h
theorem Same.seqA {K : PySem.W.Frag} {H H' : Hp} {a : Addr} {xs : List V} (e : Same H H') (h : SqA K H a xs) : SqA K H' a xs := h.imp e.seq (Same.seqT e)
theorem walk_enumT {K : PySem.W.Frag} {a : Addr} {xs : List V} : Walk (IteT K a) xs.length (fun H => SqT K H a xs) (YPair (fun i => some (.int (i : Nat))) (fun i => xs[i]?)) := by
  refine ⟨fun i _ hi q => ⟨xs, xs[i], q, by simp [hi]⟩, fun _ q => ⟨xs, q, rfl⟩, fun i H v H' _ q y => ?_⟩
  obtain ⟨T, x, e1, e2, e3, h⟩ := y
  exact ⟨T, _, x, e1, e2, e3, rfl, h xs q⟩
theorem walk_revT {K : PySem.W.Frag} {a : Addr} {xs : List V} : Walk (RT.ItvT K a xs.length) xs.length (fun H => SqT K H a xs) (fun i H x H' => H' = H ∧ xs[xs.length - 1 - i]? = some x) :=
  ⟨fun i _ hi q => ⟨hi, xs, xs[xs.length - 1 - i]'(by omega), q, by simp [show xs.length - 1 - i < xs.length by omega]⟩, fun _ _ => Nat.le_refl _, fun _ _ _ _ _ q y => ⟨y.1, y.2 xs q⟩⟩
def YRev (xs : List V) : Nat → Hp → V → Hp → Prop := fun i H x H' => H' = H ∧ xs[xs.length - 1 - i]? = some x
def YEnum (xs : List V) : Nat → Hp → V → Hp → Prop := YPair (fun i => some (.int (i : Nat))) (fun i => xs[i]?)
def iAnyV (K : PySem.W.Frag) (i : Nat) (Y : List V → Nat → Hp → V → Hp → Prop) : TI := fun σ H R => ∃ (a : Addr) (xs : List V) (H0 : Hp), σ[i]? = some (some (.ref a)) ∧ SqA K H0 a xs ∧ Kp H0 H ∧ ∀ (J : It) (G : Hp → Prop), Walk J xs.length G (Y xs) → (∀ H', Kp H0 H' → G H') → R J H
section
variable {X : Cx} {e : Expr} {i : Nat} {p pos tpos : Pos}
theorem pi_enumV {elts : List Expr} {kk : Nat} (hg : Gl X "enumerate") (hm : X.mg "enumerate" = none) (he : PE X e (tVar i)) (hs : starEach [e] X.env = (false, eval e X.env) :: starEach [] X.env := by rfl) : PI X (.Tuple elts kk tpos) (.Call (.Name "enumerate" p) [e] [] pos) (iAnyV X.K i YEnum) := by
  refine ⟨fun pins s σ H R I h => ?_⟩
  obtain ⟨a, xs, H0, hv, c, kp, k⟩ := h
  rcases c with c | c
  · exact (pi_enum (elts := elts) (kk := kk) (tpos := tpos) (p := p) (pos := pos) hg hm (pa_cons he pa_nil hs) (hs.trans rfl)).run pins s σ H R I ⟨_, hv, a, xs, rfl, kp.seqL c, k _ _ walk_enum fun H' s => s.seqL c⟩
  · exact (pi_enumT (elts := elts) (kk := kk) (tpos := tpos) (p := p) (pos := pos) hg hm (pa_cons he pa_nil hs) (hs.trans rfl)).run pins s σ H R I ⟨_, hv, a, xs, rfl, kp.seqT c, k _ _ walk_enumT fun H' s => s.seqT c⟩
theorem pi_revV {tg : Expr} (hg : Gl X "reversed") (hm : X.mg "reversed" = none) (he : PE X e (tVar i)) (hs : starEach [e] X.env = (false, eval e X.env) :: starEach [] X.env := by rfl) : PI X tg (.Call (.Name "reversed" p) [e] [] pos) (iAnyV X.K i YRev) := by
  refine ⟨fun pins s σ H R I h => ?_⟩
  obtain ⟨a, xs, H0, hv, c, kp, k⟩ := h
  refine (RT.pi_revA (p := p) (pos := pos) hg hm he hs).run pins s σ H R I ⟨_, hv, a, xs, rfl, ?_⟩
  exact c.imp (fun c => ⟨kp.seqL c, k _ _ walk_rev fun H' s => s.seqL c⟩) fun c => ⟨kp.seqT c, k _ _ walk_revT fun H' s => s.seqT c⟩
theorem pi_seqV {tg : Expr} (he : PE X e (tVar i)) : PI X tg e (iAnyV X.K i YAt) := by
  refine ⟨fun pins s σ H R I h => ?_⟩
  obtain ⟨a, xs, H0, hv, c, kp, k⟩ := h
  rcases c with c | c
  · exact (pi_list (tg := tg) he).run pins s σ H R I ⟨_, hv, a, rfl, ⟨_, kp.seqL c⟩, k _ _ walk_list fun H' s => s.seqL c⟩
  · exact (pi_tup (tg := tg) he).run pins s σ H R I ⟨_, hv, a, rfl, ⟨_, kp.seqT c⟩, k _ _ walk_tup fun H' s => s.seqT c⟩
end
/-- tuple(xs), a list or a tuple: some tuple of the same -/
def rTupAny (K : PySem.W.Frag) : List V → Hp → VK → Prop := fun xs H Q => ∃ (p : Addr) (ys : List V), xs = [.ref p] ∧ SqA K H p ys ∧ ∀ l H', SqT K H' l ys → Same H H' → Q (.ref l) H'
theorem call_tuple_any {X : Cx} : CallR X (.type "tuple") (rTupAny X.K) := by
  intro pins s σ H xs us Q I r h
  obtain ⟨p, ys, e, h, k⟩ := h
  exact call_tuple_of pins s σ H xs us Q I r ⟨p, ys, e, h.imp (fun h => ⟨h, fun l nl => k l _ (SqT.of upd_same) (Same.new nl)⟩) fun h => ⟨h, k p H h (Same.refl' H)⟩⟩
/-- the same, where the written part is told -/
theorem call_tuple_anyK {X : Cx} {K : PySem.W.Frag} (e : X.K = K) : CallR X (.type "tuple") (rTupAny K) := by
  subst e
  exact call_tuple_any
/-- a comprehension without a trace over any walk -/
theorem lcp_it {J : It} {G : Hp → Prop} {D : Addr} {xs : List V} {g : L2.TG} {te : L2.TE} {vs : List Nat} {σ : L2.St} {H1 : Hp} {Qd : Hp → Prop} {f : V → V} (w : Walk J xs.length G (YAt xs)) (hn : H1 D = none) (hz : xs.length ≤ 1000000) (hG : ∀ H', Kp H1 H' → G H')
    (he : ∀ (i : Nat) (x : V) (H : Hp) (R : VK), xs[i]? = some x → Same H1 H → R (f x) H → g x (wipe σ vs) H fun σ2 H2 => wipe σ2 vs = wipe σ vs ∧ te σ2 H2 R) (hd : Qd (upd H1 D (.lst (xs.map f)))) :
    ∃ W : Nat → Nat → Hp → Prop, (∃ m, W 0 m (upd H1 D (.lst []))) ∧ ∀ i m H, W i m H →
      (J.stop i H ∧ Qd H) ∨ (J.go i H ∧ ∃ Nx : Hp → Prop, (∀ H', Nx H' → ∃ m', m' < m ∧ W (i + 1) m' H') ∧ ∀ x H', J.yld i H x H' → g x (wipe σ vs) H' fun σ2 H2 => wipe σ2 vs = wipe σ vs ∧ tYes σ2 H2 fun b H3 =>
        if b = true then te σ2 H3 fun y H4 => ∃ acc, H4 D = some (.lst acc) ∧ acc.length < sizeLine ∧ Nx (upd H4 D (.lst (acc ++ [y]))) else Nx H3) := by
  refine lc_it w (fun i H => H = upd H1 D (.lst ((xs.take i).map f))) rfl (fun i H _ e => by rw [e]; exact hG _ (Kp.new hn)) (fun i x H H' hi e y => ?_) (fun H e => ?_)
  · subst e
    obtain ⟨rfl, hx⟩ := y
    refine he i x _ _ hx (Y.Same.new hn) ⟨(xs.take i).map f, upd_same, ?_, ?_⟩
    · rw [List.length_map, List.length_take]
      have : sizeLine = 16777216 := sizeLine_eq
      omega
    · rw [upd_upd, take_next hx, List.map_append]
      rfl
  · rw [e, List.take_length]
    exact hd
end Y
set_option Elab.async false
set_option linter.all false
set_option maxRecDepth 100000
set_option maxHeartbeats 2000000
/-! repr() of any data of None, bools, ints, texts, lists, tuples, empty dicts, where no repr is under way -/
namespace Y
open PySem PySem.Spec PyProof.Rows L2
mutual
/-- x is the data d: an empty dict may stand in it, too -/
inductive Dq (K : PySem.W.Frag) (H : Hp) : PyData → V → Prop
  | non : Dq K H .none .non
  | bl (b : Bool) : Dq K H (.bool b) (.bl b)
  | int (i : Int) : Dq K H (.int i) (.int i)
  | str (x : Str) : Dq K H (.str x) (.str x)
  | lst {ds : List PyData} {a : Addr} {xs : List V} : SqL K H a xs → Dqs K H ds xs → Dq K H (.list ds) (.ref a)
  | tup {ds : List PyData} {a : Addr} {xs : List V} : SqT K H a xs → Dqs K H ds xs → Dq K H (.tuple ds) (.ref a)
  | dct {a : Addr} : H a = some (.dK []) → Dq K H (.dict []) (.ref a)
inductive Dqs (K : PySem.W.Frag) (H : Hp) : List PyData → List V → Prop
  | nil : Dqs K H [] []
  | cons {d : PyData} {ds : List PyData} {v : V} {vs : List V} : Dq K H d v → Dqs K H ds vs → Dqs K H (d :: ds) (v :: vs)
end
mutual
/-- no list stands in it -/
def unlisted : PyData → Bool
  | .list _ => false
  | .tuple xs => unlisteds xs
  | _ => true
def unlisteds : List PyData → Bool
  | [] => true
  | x :: xs => unlisted x && unlisteds xs
end
section
variable {X : Cx} {pins : List (Addr × Obj)} {σ : L2.St} {H : Hp} {s : Shared}
mutual
theorem Dq.look (I : Inv X pins σ H s) : ∀ (d : PyData) (v : V) (u : Value), Dq X.K H d v → RelV v u → ∃ as, Reads s.heap u d as ∧ (unlisted d = true → sysModules ∉ as)
  | .none, _, _, h, r => by cases h; cases r; exact ⟨_, .none, fun _ z => by cases z⟩
  | .bool b, _, _, h, r => by cases h; cases r; exact ⟨_, .bool b, fun _ z => by cases z⟩
  | .int i, _, _, h, r => by cases h; obtain ⟨t, rfl⟩ := r; exact ⟨_, .int i t, fun _ z => by cases z⟩
  | .str x, _, _, h, r => by cases h; obtain ⟨t, rfl⟩ := r; exact ⟨_, .str x t, fun _ z => by cases z⟩
  | .list ds, _, _, h, r => by
    cases h with
    | lst hs ha =>
      cases r
      obtain ⟨its, rv, ⟨o, n, ho, hc, _, hd⟩, _⟩ := I.list hs
      obtain ⟨as, hr, _⟩ := Dqs.look I ds _ its ha rv
      exact ⟨_, .list ho hc hd hr, fun z => by simp [unlisted] at z⟩
  | .tuple ds, _, _, h, r => by
    cases h with
    | tup hs ha =>
      cases r
      obtain ⟨its, rv, ⟨o, ho, hc, n, hd⟩, _⟩ := I.tuple hs
      obtain ⟨as, hr, hn⟩ := Dqs.look I ds _ its ha rv
      exact ⟨_, .tuple ho hc hd hr, fun z => hn (by simpa [unlisted] using z)⟩
  | .dict kvs, _, _, h, r => by
    cases h with
    | @dct a ea =>
      cases r
      obtain ⟨_, na, vs, kv, o, es, ep, ho, ex, hd, _, he, _⟩ := (show ObjOk X.prog X.w H s.heap a (.dK []) from I.hok a _ ea)
      cases kv
      have e0 : es.toList = [] := by
        generalize es.toList = l at he
        cases he
        rfl
      exact ⟨_, .dict ho ex.1 hd (by rw [e0]; exact .nil) (by rw [e0]; exact .nil), fun _ z => by simp at z; rw [z] at na; simp at na⟩
theorem Dqs.look (I : Inv X pins σ H s) : ∀ (ds : List PyData) (vs : List V) (us : List Value), Dqs X.K H ds vs → Vals vs us → ∃ as, ReadsAll s.heap us ds as ∧ (unlisteds ds = true → sysModules ∉ as)
  | [], _, _, h, r => by cases h; cases r; exact ⟨_, .nil, fun _ z => by cases z⟩
  | d :: ds, _, _, h, r => by
    cases h with
    | cons h1 h2 =>
      cases r with
      | cons r1 r2 =>
        obtain ⟨as, q1, n1⟩ := Dq.look I d _ _ h1 r1
        obtain ⟨bs, q2, n2⟩ := Dqs.look I ds _ _ h2 r2
        refine ⟨_, .cons q1 q2, fun z => ?_⟩
        simp only [unlisteds, Bool.and_eq_true] at z
        intro m
        rcases List.mem_append.mp m with m | m
        · exact n1 z.1 m
        · exact n2 z.2 m
end
end
/-- what repr(x) asks -/
def rShow (K : PySem.W.Frag) : List V → Hp → VK → Prop := fun xs H Q => ∃ (x : V) (d : PyData), xs = [x] ∧ Dq K H d x ∧ d.showable = true ∧ (d.hasDict = true → unlisted d = true) ∧ d.depth ≤ 40 ∧ d.shown.length ≤ sizeLine ∧ Q (.str d.shown) H
theorem call_show {X : Cx} (hg : X.A.guards = some []) (hu : X.A.units + 64 < cLine) : CallR X (.builtin "repr") (rShow X.K) := by
  intro pins s σ H xs us Q I r h
  obtain ⟨x, d, rfl, dq, sh, nl, dp, sz, q⟩ := h
  obtain ⟨u, rfl, ru⟩ := vals1 r
  obtain ⟨as, rd, na⟩ := Dq.look I d x u dq ru
  have ref : ∀ a, u = .ref a → wpAny (model X.prog X.w) X.A (call (.builtin "repr") [.ref a]) (EP X pins σ Q) X.xe s := fun a e => by
    subst e
    exact repr_of_reads' rd sh (fun z => na (nl z)) hg (by omega) (fun b o z => z) (fun h' u tk hk => ⟨.str d.shown, H, I.kept (t' := tk) hk, ⟨u, rfl⟩, q⟩) sz
  cases dq with
  | non => cases ru; rw [PyData.shown_none] at q; exact PySem.P.repr_of_none ⟨.str _, H, I.tok _, ⟨_, rfl⟩, q⟩
  | bl b => cases ru; rw [PyData.shown_bool] at q; exact PySem.P.repr_of_bool ⟨.str _, H, I.tok _, ⟨_, rfl⟩, q⟩
  | int i =>
    obtain ⟨t, rfl⟩ := ru
    rw [PyData.shown_int] at q
    exact PySem.P.repr_of_int (of_decide_eq_true (by simpa [PyData.showable] using sh)) ⟨.str _, H, I.tok _, ⟨_, rfl⟩, q⟩
  | str y =>
    obtain ⟨t, rfl⟩ := ru
    rw [PyData.shown_str] at q sz
    exact PySem.P.repr_of_str ⟨.str _, H, I.tok _, ⟨_, rfl⟩, q⟩ sz
  | lst _ _ => cases ru; exact ref _ rfl
  | tup _ _ => cases ru; exact ref _ rfl
  | dct _ => cases ru; exact ref _ rfl
end Y
set_option Elab.async false
set_option linter.all false
set_option maxRecDepth 100000
set_option maxHeartbeats 2000000
namespace L2
open PySem PySem.Spec PyProof.Rows
section
variable {X : Cx}
/-- set(), for tuples of ints -/
def rSet0T (P : Program) (w : World) : List V → Hp → VK → Prop := fun xs H Q => xs = [] ∧ ∀ p, H p = none → Q (.ref p) (upd H p (SetTO P w p []))
theorem cr_set0T : CallR X (.type "set") (rSet0T X.prog X.w) := by
  intro pins s σ H xs us Q I r h
  obtain ⟨rfl, q⟩ := h
  cases r
  refine setR_new fun _ => ?_
  have new := (setTR_fresh (P := X.prog) (w := X.w) (Heap.get?_push_size s.heap (o := { cls := .type "set", dict := none, data := .set #[] 0 (.fresh 0 0 (!X.w.params.followText "set-order")) }) rfl)).t0
  exact ⟨.ref _, upd H s.heap.objs.size (SetTO X.prog X.w s.heap.objs.size []), I.laid (t' := s.toks) (fun b u e => Heap.get?_push_of_some _ e) (Nat.le_refl _) (setTO_new new), rfl, q _ (I.hok.fresh (Nat.le_refl _))⟩
/-- seen.add(t) -/
def rSAddT (K : PySem.W.Frag) (P : Program) (w : World) : V → List V → Hp → VK → Prop := fun x xs H Q => ∃ (a b : Addr) (L : List (Addr × List Int)) (k : List Int), x = V.ref a ∧ xs = [.ref b] ∧ H a = some (SetTO P w a L) ∧ (∀ p ∈ L, SqT K H p.1 (p.2.map V.int)) ∧ SqT K H b (k.map V.int) ∧ L.length + 1 < 64 ∧
  ∀ L', (k ∈ L.map (·.2) → L' = L) → (k ∉ L.map (·.2) → L'.Perm ((b, k) :: L)) → Q .non (upd H a (SetTO P w a L'))
theorem call_saddT {pins : List (Addr × Obj)} {σ : St} {H : Hp} {s : Shared} {a b : Addr} {L : List (Addr × List Int)} {k : List Int} {Q : Value → Shared → Prop} (hu : X.A.units + 64 < cLine) (I : Inv X pins σ H s) (ha : H a = some (SetTO X.prog X.w a L)) (hL : ∀ p ∈ L, SqT X.K H p.1 (p.2.map V.int)) (hb : SqT X.K H b (k.map V.int)) (hf : L.length + 1 < 64)
    (q : ∀ L' s', (k ∈ L.map (·.2) → L' = L) → (k ∉ L.map (·.2) → L'.Perm ((b, k) :: L)) → Inv X pins σ (upd H a (SetTO X.prog X.w a L')) s' → Q .none s') :
    wpAny (model X.prog X.w) X.A (call (.builtin "set.add") [.ref a, .ref b]) Q X.xe s := by
  have R0 : SetT0 X.prog X.w s.heap a L := (I.hok a _ ha).1
  obtain ⟨es, ep, t, R⟩ := R0.full fun p hp => I.isT (hL p hp)
  have hx := I.isT hb
  obtain ⟨o, ho, hex, hd⟩ := R.ob
  have hT : s.TypeIs (.ref a) "set" := ⟨o, ho, hex.1⟩
  refine wpAny_call_entry F.slot_set_add hT F.entry_set_add ?_ (F.args_set_add_2 _ _)
  unfold Builtin.«set.add» Builtin.Frozenset.oneOther
  simp only [List.isEmpty_nil, bind_assoc]
  unfold Builtin.Frozenset.addrOf setAdd
  refine wpAny_bind (wpAny_pure ?_)
  try dsimp only
  refine wpAny_bind (wpAny_pure ?_)
  try dsimp only
  refine wpAny_bind ?_
  refine wpAny_holding ?_
  have hu1 : X.A.in1.units < cLine := Nat.lt_of_le_of_lt (show X.A.in1.units ≤ X.A.units + 64 from Nat.le_trans (Nat.le_refl _) (by show X.A.units + 1 ≤ X.A.units + 64; omega)) hu
  refine wpAny_bind (wpAny_pyHash_tuple hu1 hx ?_)
  refine add_at (s := { s with toks := s.toks + (k.length + 1) }) R hx hu1 hf fun b' h' L' es' ep' t' sb R2 c1 c2 => ?_
  show wpAny _ _ (ret Value.none) _ _ _
  refine wpAny_pure ⟨_, rfl, q L' _ c1 c2 (I.write (e := a) (t' := s.toks + (k.length + 1)) (by rw [ha]; trivial) (.inl rfl) (fun c u hc hu => (sb.2 c hc).trans hu) ?_ (setTO_new R2.t0))⟩
  obtain ⟨o', ho', _⟩ := R2.ob
  exact ⟨o', ho'⟩
end
end L2
set_option Elab.async false
set_option linter.all false
set_option maxRecDepth 100000
set_option maxHeartbeats 2000000
namespace L2
open PySem PySem.Spec PyProof.Rows
/-! ### seen.add(t) as an expression -/
def tSAddT (K : PySem.W.Frag) (P : Program) (w : World) (to : TE) (t : TA) : TE := fun σ H Q => to σ H fun x H1 => (∃ a L, x = V.ref a ∧ H1 a = some (SetTO P w a L)) ∧ t σ H1 fun xs H2 => rSAddT K P w x xs H2 Q
theorem pe_saddT {X : Cx} {o e : Expr} {es : List Expr} {to : TE} {t : TA} {apos cpos : Pos} (hu : X.A.units + 64 < cLine) (ho : PE X o to) (ha : PA X (e :: es) t)
    (hbase : attributeBase o "add" X.env (eval o X.env) = eval o X.env := by rfl) (hfew : ((backTo cpos (starEach (e :: es) X.env)).all (fun x => !x.1) && (backToKw cpos (keywordEach [] X.env)).all (fun x => x.1.isSome) && decide ((e :: es).length + ([] : List Keyword).length + (if ([] : List Keyword).isEmpty then 0 else 1) < 30)) = true := by rfl)
    (hline : (apos.endLine == cpos.line) = true := by rfl) (hs : starEach (e :: es) X.env = (false, eval e X.env) :: starEach es X.env := by rfl) (hplain : (backTo cpos (starEach es X.env)).any (·.1) = false := by rfl) :
    PE X (.Call (.Attribute o "add" apos) (e :: es) [] cpos) (tSAddT X.K X.prog X.w to t) := by
  refine ⟨fun pins s σ H Q I h => ?_⟩
  refine wpAny_Call_method_late hbase hfew hline rfl (thn (ho.run pins s σ H _ I h) fun v s1 ⟨x, H1, I1, r1, ty, q1⟩ => ?_)
  obtain ⟨a, L, rfl, hka⟩ := ty
  have R0 : SetT0 X.prog X.w s1.heap a L := (I1.hok a _ hka).1
  obtain ⟨es', ep, t', ⟨ob, hob, hex, hdt⟩, _⟩ := R0.ex
  cases r1
  refine ⟨"set", "set.add", F.plainAttrs_set, F.slot_set_add, F.type_set_add, ⟨ob, hob, hex.1⟩, (fun b e => by cases e; exact ⟨ob, hob, hex.2.1⟩), ?_⟩
  have hA := ha.run cpos pins s1 σ H1 _ I1 q1
  rw [hs] at hA ⊢
  refine Calls.callWith_builtin (by show (false || (backTo cpos (starEach es X.env)).any (·.1)) = false; rw [hplain] <;> rfl) (Calls.evalArgs_plain (thn hA fun us s2 ⟨vs, H2, I2, r2, q2⟩ => ?_))
  obtain ⟨a', b, L2, k, e1, rfl, h2, hL, hb, few, q⟩ := q2
  cases e1
  cases r2 with
  | cons ry rt =>
    cases rt
    cases ry
    refine call_saddT hu I2 h2 hL hb few fun L' s' c1 c2 I3 => ?_
    exact ⟨.non, _, I3, rfl, q L' c1 c2⟩
end L2
set_option Elab.async false
set_option linter.all false
set_option maxRecDepth 100000
set_option maxHeartbeats 2000000
namespace L2
open PySem PySem.Spec PyProof.Rows
/-- sorted(d) of a dict with fewer than 64 keys, all tuples of as many ints in [0, B): a new list of the key tuples, ascending by code B -/
def rSortDT (K : PySem.W.Frag) : List V → Hp → VK → Prop := fun vs H Q => ∃ (a : Addr) (kvs : List (List Key × V)) (d : Nat) (B : Int), vs = [V.ref a] ∧ Rd H a (.dT kvs) ∧ kvs.length < 64 ∧ 1 ≤ d ∧
  (∀ kv ∈ kvs, ∃ ns : List Int, kv.1 = ns.map Sum.inl ∧ ns.length = d ∧ TS.Bd B ns) ∧
  ∀ (bs : List Addr) (ys : List V) (p : Addr), IsKeys H kvs bs → ys.Perm (bs.map V.ref) → ys.Pairwise (fun x y => ∀ n m, TupI K H x n → TupI K H y m → TS.code B n ≤ TS.code B m) → H p = none → Q (.ref p) (upd H p (.lst ys))
theorem isKeys_mem {H : Hp} {kvs : List (List Key × V)} {bs : List Addr} (r : IsKeys H kvs bs) : ∀ b ∈ bs, ∃ kv ∈ kvs, H b = some (.tup (kv.1.map kV)) := by
  unfold IsKeys at r
  induction r with
  | nil => intro b hb; cases hb
  | cons h t ih =>
    intro b hb
    rcases List.mem_cons.mp hb with rfl | hb
    · exact ⟨_, List.mem_cons_self, h⟩
    · obtain ⟨kv, m, e⟩ := ih b hb
      exact ⟨kv, List.mem_cons_of_mem _ m, e⟩
section
variable {X : Cx}
theorem cr_sortedDT (hc : X.calm = true) : CallR X (.builtin "sorted") (rSortDT X.K) := by
  intro pins s σ H xs us Q I r h
  obtain ⟨a, kvs, d, B, rfl, hd, h64, hd1, hB, q⟩ := h
  obtain ⟨u, rfl, rx⟩ := r.one
  cases rx
  obtain ⟨z, hs, ks, pr, o, es, ep, ho, hx, hdt, he, hn⟩ := (show ObjOk X.prog X.w H s.heap a (.dT kvs) from hd.ok I.hok)
  have l1 : es.size = ks.length := size_of_entries he
  have l2 : kvs.length = ks.length := Paired.length pr
  refine Calls.call_function_entry PyProof.Rows.kind_sorted PyProof.Rows.plain_sorted PyProof.Rows.entry_sorted (PyProof.Rows.args_sorted1 _) ?_
  unfold Builtin.«sorted»
  refine wpAny_bind (m := checkCount "sorted" 1 1 _) (wpAny_pure ?_)
  have szl : sizeLine = 16777216 := sizeLine_eq
  refine wpAny_bind (PySem.W.kdu_collect (A := X.A.in1) (kdl_raw hs hx hdt) (I.ok.hd hc) ho (by omega) fun h' tk acc' hk it => ?_)
  have ea : acc'.toList = ks.map fun x => Value.ref x.2.1 := by
    have hl : acc'.toList.length = ks.length := by rw [Array.length_toList, it.1]; exact l1
    apply List.ext_getElem?
    intro j
    rw [List.getElem?_map]
    cases hj : acc'.toList[j]? with
    | none =>
      have h1 := List.getElem?_eq_none_iff.mp hj
      rw [List.getElem?_eq_none (by omega)]
      all_goals rfl
    | some v =>
      obtain ⟨en, hen, hv⟩ := it.2 j v (by rw [← Array.getElem?_toList]; exact hj)
      have qe := entry_at he j
      rw [hen] at qe
      cases hb : ks[j]? with
      | none =>
        rw [hb] at qe
        exact nomatch (show some en = none from qe)
      | some b =>
        rw [hb] at qe
        have e2 : en = entryOfKey (tupleKind (mixKind X.prog X.w)) b := Option.some.inj qe
        rw [hv, e2]
        all_goals rfl
  have I1 : Inv X pins σ H { s with heap := h', toks := tk } := I.kept hk
  have kz := isKeys_of pr
  have eb : acc'.toList = (ks.map fun x => x.2.1).map Value.ref := by rw [ea, List.map_map]; all_goals rfl
  have al : acc'.toList.length = kvs.length := by rw [ea, List.length_map]; omega
  have tups : ∀ v ∈ acc'.toList, ∃ (t : Addr) (ns : List Int), v = .ref t ∧ H t = some (.tup (ns.map V.int)) ∧ ns.length = d ∧ TS.Bd B ns := fun v hv => by
    rw [eb] at hv
    obtain ⟨b, hb, rfl⟩ := List.mem_map.mp hv
    obtain ⟨kv, m, e⟩ := isKeys_mem kz b hb
    obtain ⟨ns, ek, n1, n2⟩ := hB kv m
    refine ⟨b, ns, rfl, ?_, n1, n2⟩
    rw [e, ek, List.map_map]
    rfl
  refine wpAny_bind (wpAny_newList ?_ (by rw [al]; omega))
  have hoL : (h'.push (seqObj "list" acc'.toList.toArray 0)).get? h'.objs.size = some (seqObj "list" acc'.toList.toArray 0) := Heap.get?_push_size _ rfl
  have okT : TS.TupsOk (h'.push (seqObj "list" acc'.toList.toArray 0)) d B acc'.toList := fun v hv => by
    obtain ⟨t, ns, rfl, e, n1, n2⟩ := tups v hv
    have raw := tupI_raw I1 (SqT.of e)
    exact ⟨ns, raw.keeps fun b ob q _ => Heap.get?_push_of_some _ q, n1, n2⟩
  show wpAny _ _ _ _ _ { s with heap := h'.push (seqObj "list" acc'.toList.toArray 0), toks := tk }
  refine wpAny_bind (wpAny_holding (wpAny_call_entry PyProof.Rows.slot_list_sort ⟨_, hoL, rfl⟩ PyProof.Rows.entry_list_sort
    (TS.sort_tups (s := { s with heap := h'.push (seqObj "list" acc'.toList.toArray 0), toks := tk }) hoL (by rw [al]; exact h64) hd1 okT (fun v => TS.code B (TS.intsOf (h'.push (seqObj "list" acc'.toList.toArray 0)) v)) (fun v hv ns t => by
      show TS.code B (TS.intsOf _ v) = TS.code B ns
      rw [t.ints]) fun out a1 a2 => ⟨_, rfl, ?_⟩) (PyProof.Rows.args_list_sort _)))
  obtain ⟨e', he'⟩ := PyProof.Rows.sortedHeap_at (vs := acc'.toList) (out := out) hoL
  have refs : ∀ u ∈ out.toList, ∃ a, u = Value.ref a := fun u hu => by
    obtain ⟨t, _, e, _⟩ := tups u (a1.mem_iff.mp hu)
    exact ⟨t, e⟩
  have hp : (out.toList.map bkV).Perm ((ks.map fun x => x.2.1).map V.ref) := by
    have e1 : acc'.toList.map bkV = (ks.map fun x => x.2.1).map V.ref := by rw [eb, List.map_map]; rfl
    rw [← e1]
    exact a1.map bkV
  have hlen : (out.toList.map bkV).length ≤ sizeLine := by
    rw [hp.length_eq, List.length_map, List.length_map]
    omega
  refine wpAny_pure ⟨_, rfl, .ref h'.objs.size, upd H h'.objs.size (.lst (out.toList.map bkV)), I1.laid (t' := tk) (fun b u e => ?_) (Nat.le_refl _)
    (show ObjOk X.prog X.w _ _ _ (.lst (out.toList.map bkV)) from ⟨hlen, out.toList, e', bkV_vals refs, by rw [Array.toArray_toList]; exact he'⟩), rfl, q _ _ _ kz hp ?_ (I1.hok.fresh (Nat.le_refl _))⟩
  · have hb : b < h'.objs.size := Heap.lt_size e
    rw [PyProof.Rows.sortedHeap_old (Nat.ne_of_lt hb) (by rw [size_push']; exact Nat.lt_succ_of_lt hb)]
    exact Heap.get?_push_of_some _ e
  · rw [List.pairwise_map]
    refine List.Pairwise.imp (fun {u v} huv n m hn hm => ?_) a2
    obtain ⟨t, et, ht⟩ := hn
    obtain ⟨t', et', ht'⟩ := hm
    have eu := bkV_ref et
    have ev := bkV_ref et'
    have i1 : TS.intsOf (h'.push (seqObj "list" acc'.toList.toArray 0)) u = n := by
      rw [eu]
      exact ((tupI_raw I1 ht).keeps fun b ob q _ => Heap.get?_push_of_some _ q).ints
    have i2 : TS.intsOf (h'.push (seqObj "list" acc'.toList.toArray 0)) v = m := by
      rw [ev]
      exact ((tupI_raw I1 ht').keeps fun b ob q _ => Heap.get?_push_of_some _ q).ints
    rw [← i1, ← i2]
    exact huv
end
end L2
set_option Elab.async false
set_option linter.all false
set_option maxRecDepth 100000
set_option maxHeartbeats 2000000
namespace Y
open PySem PySem.Spec PyProof.Rows L2
abbrev PK := List (List Key × V)
def pk (t : Int × Int) : List Key := [Sum.inl t.1, Sum.inl t.2]
theorem pk_inj {t u : Int × Int} (h : pk t = pk u) : t = u := by
  unfold pk at h
  injection h with h1 h2
  injection h2 with h2 _
  injection h1 with h1
  injection h2 with h2
  exact Prod.ext h1 h2
/-- a tie between two of n places -/
def TieOk (n : Nat) (t : Int × Int) : Prop := 0 ≤ t.1 ∧ t.1 < n ∧ 0 ≤ t.2 ∧ t.2 < n ∧ t.1 ≠ t.2
/-- the pairs kept in a dict: ks, in the order they came -/
def PairsOk (n : Nat) (kvs : PK) (ks : List (Int × Int)) : Prop := kvs.map (·.1) = ks.map pk ∧ ks.Nodup ∧ ∀ t ∈ ks, TieOk n t
theorem PairsOk.nil (n : Nat) : PairsOk n [] [] := ⟨rfl, List.nodup_nil, fun t h => by cases h⟩
theorem PairsOk.len {n : Nat} {kvs : PK} {ks : List (Int × Int)} (h : PairsOk n kvs ks) : kvs.length = ks.length := by
  have := congrArg List.length h.1
  rwa [List.length_map, List.length_map] at this
theorem PairsOk.put {n : Nat} {kvs : PK} {ks : List (Int × Int)} (h : PairsOk n kvs ks) {t : Int × Int} (ht : TieOk n t) (v : V) : ∃ ks', PairsOk n (putK kvs (pk t) v) ks' ∧ ks'.length ≤ ks.length + 1 ∧ (∀ u ∈ ks, u ∈ ks') ∧ t ∈ ks' := by
  by_cases c : (kvs.any fun kv => decide (kv.1 = pk t)) = true
  · refine ⟨ks, ⟨?_, h.2.1, h.2.2⟩, Nat.le_succ _, fun u hu => hu, ?_⟩
    rotate_left
    · obtain ⟨kv, m, e⟩ := List.any_eq_true.mp c
      have m2 : pk t ∈ ks.map pk := by rw [← h.1]; exact List.mem_map.mpr ⟨kv, m, of_decide_eq_true e⟩
      obtain ⟨u, hu, e2⟩ := List.mem_map.mp m2
      rw [← pk_inj e2]; exact hu
    unfold putK
    rw [if_pos c, List.map_map, ← h.1]
    refine List.map_congr_left fun kv _ => ?_
    show (if kv.1 = pk t then (kv.1, v) else kv).1 = kv.1
    split <;> rfl
  · refine ⟨ks ++ [t], ⟨?_, ?_, fun u hu => ?_⟩, by rw [List.length_append]; exact Nat.le_refl _, fun u hu => List.mem_append.mpr (.inl hu), List.mem_append.mpr (.inr (List.mem_singleton.mpr rfl))⟩
    · unfold putK
      rw [if_neg c, List.map_append, List.map_append, h.1]
      rfl
    · rw [List.nodup_append]
      refine ⟨h.2.1, by simp, fun a ha b hb e => c ?_⟩
      rw [List.mem_singleton] at hb
      subst hb
      subst e
      have : pk a ∈ kvs.map (·.1) := by rw [h.1]; exact List.mem_map.mpr ⟨a, ha, rfl⟩
      obtain ⟨kv, m, e⟩ := List.mem_map.mp this
      exact List.any_eq_true.mpr ⟨kv, m, decide_eq_true e⟩
    · rcases List.mem_append.mp hu with hu | hu
      · exact h.2.2 u hu
      · rw [List.mem_singleton.mp hu]; exact ht
/-! ### ties as data -/
def tieD (t : Int × Int) : PyData := .tuple [.int t.1, .int t.2]
theorem dp_tie {K : PySem.W.Frag} {H : Hp} {b : Addr} {t : Int × Int} (h : SqT K H b [.int t.1, .int t.2]) : Dp K H (.ref b) (tieD t) := .tup h (.cons (.int _) (.cons (.int _) .nil))
/-- at y: the tie t -/
def TieAt (K : PySem.W.Frag) (H : Hp) (y : V) (t : Int × Int) : Prop := TupI K H y [t.1, t.2]
theorem TieAt.dp {K : PySem.W.Frag} {H : Hp} {y : V} {t : Int × Int} (h : TieAt K H y t) : Dp K H y (tieD t) := by
  obtain ⟨b, rfl, h⟩ := h
  exact dp_tie h
/-- a row of ties -/
def TiesOk (n : Nat) (ts : List (Int × Int)) : Prop := ts.Nodup ∧ (∀ t ∈ ts, TieOk n t) ∧ ts.Pairwise fun a b => TS.code 64 [a.1, a.2] ≤ TS.code 64 [b.1, b.2]
theorem keysP {H : Hp} {kvs : PK} {bs : List Addr} {n : Nat} {ks : List (Int × Int)} (r : IsKeys H kvs bs) (h : kvs.map (·.1) = ks.map pk) : Paired (fun (t : Int × Int) (b : Addr) => H b = some (.tup [.int t.1, .int t.2])) ks bs := by
  unfold IsKeys at r
  induction r generalizing ks with
  | nil =>
    cases ks with
    | nil => exact .nil
    | cons t ks => cases h
  | @cons kv b _ _ e t ih =>
    cases ks with
    | nil => cases h
    | cons u ks =>
      injection h with h1 h2
      refine .cons ?_ (ih h2)
      rw [e]
      have h1' : kv.1 = pk u := h1
      rw [h1']
      rfl
/-- sorted, the ties stand in order -/
theorem sorted_ties {K : PySem.W.Frag} {H : Hp} {bs : List Addr} {n : Nat} {ks : List (Int × Int)} (r : Paired (fun (t : Int × Int) (b : Addr) => H b = some (.tup [.int t.1, .int t.2])) ks bs) (nd : ks.Nodup) (ok : ∀ t ∈ ks, TieOk n t)
    {ys : List V} (pm : ys.Perm (bs.map V.ref)) (pw : ys.Pairwise (fun x y => ∀ n m, TupI K H x n → TupI K H y m → TS.code 64 n ≤ TS.code 64 m)) :
    ∃ ts : List (Int × Int), ts.Perm ks ∧ TiesOk n ts ∧ Paired (TieAt K H) ys ts := by
  let f : V → Int × Int := fun y => match y with
    | .ref b => (match H b with | some (.tup [.int i, .int j]) => (i, j) | _ => (0, 0))
    | _ => (0, 0)
  have fb : (bs.map V.ref).map f = ks := by
    clear nd ok pm pw
    induction r with
    | nil => rfl
    | @cons t b _ _ e _ ih =>
      rw [List.map_cons, List.map_cons, ih]
      show (match H b with | some (.tup [.int i, .int j]) => (i, j) | _ => (0, 0)) :: _ = _
      rw [e]
  have fa : ∀ y ∈ bs.map V.ref, TieAt K H y (f y) := by
    clear nd ok pm pw fb
    induction r with
    | nil => intro y hy; cases hy
    | @cons t b _ _ e _ ih =>
      intro y hy
      rcases List.mem_cons.mp hy with rfl | hy
      · refine ⟨b, rfl, ?_⟩
        show SqT K H b [.int (match H b with | some (.tup [.int i, .int j]) => (i, j) | _ => (0, 0)).1, .int (match H b with | some (.tup [.int i, .int j]) => (i, j) | _ => (0, 0)).2]
        rw [e]
        exact SqT.of e
      · exact ih y hy
  have p1 : (ys.map f).Perm ks := by rw [← fb]; exact pm.map f
  have at' : ∀ y ∈ ys, TieAt K H y (f y) := fun y hy => fa y (pm.mem_iff.mp hy)
  refine ⟨ys.map f, p1, ⟨(p1.nodup_iff).mpr nd, fun t ht => ok t (p1.mem_iff.mp ht), ?_⟩, ?_⟩
  · rw [List.pairwise_map]
    refine List.Pairwise.imp_of_mem (fun {a b} ha hb h => h _ _ (at' a ha) (at' b hb)) pw
  · clear p1 pm pw
    induction ys with
    | nil => exact .nil
    | cons y ys ih => exact .cons (at' y List.mem_cons_self) (ih fun z hz => at' z (List.mem_cons_of_mem _ hz))
theorem TieAt.kp {K : PySem.W.Frag} {H H' : Hp} {y : V} {t : Int × Int} (h : TieAt K H y t) (s : Kp H H') : TieAt K H' y t := by
  obtain ⟨b, e, h⟩ := h
  exact ⟨b, e, s.seqT h⟩
theorem ties_kp {K : PySem.W.Frag} {H H' : Hp} {ys : List V} {ts : List (Int × Int)} (h : Paired (TieAt K H) ys ts) (s : Kp H H') : Paired (TieAt K H') ys ts := by
  induction h with
  | nil => exact .nil
  | cons a _ ih => exact .cons (a.kp s) ih
theorem ties_dp {K : PySem.W.Frag} {H : Hp} {ys : List V} {ts : List (Int × Int)} (h : Paired (TieAt K H) ys ts) : DpAll K H ys (ts.map tieD) := by
  induction h with
  | nil => exact .nil
  | cons a _ ih => exact .cons a.dp ih
theorem ties_len {K : PySem.W.Frag} {H : Hp} {ys : List V} {ts : List (Int × Int)} (h : Paired (TieAt K H) ys ts) : ys.length = ts.length := Paired.length h
theorem ties_get {K : PySem.W.Frag} {H : Hp} {ys : List V} {ts : List (Int × Int)} (h : Paired (TieAt K H) ys ts) : ∀ {i : Nat} {y : V}, ys[i]? = some y → ∃ t, ts[i]? = some t ∧ TieAt K H y t := by
  induction h with
  | nil => intro i y e; simp at e
  | cons a _ ih =>
    intro i y e
    cases i with
    | zero => cases Option.some.inj e; exact ⟨_, rfl, a⟩
    | succ i => exact ih e
theorem bd_tie {n : Nat} {t : Int × Int} (h : TieOk n t) (hn : n ≤ 64) : TS.Bd 64 [t.1, t.2] := by
  obtain ⟨a, b, c, d, _⟩ := h
  intro x hx
  rcases List.mem_cons.mp hx with rfl | hx
  · exact ⟨a, by omega⟩
  · rw [List.mem_singleton.mp hx]; exact ⟨c, by omega⟩
end Y
set_option Elab.async false
set_option linter.all false
set_option maxRecDepth 100000
set_option maxHeartbeats 2000000
namespace Y
open PySem PySem.Spec PyProof.Rows L2
/-! ### is the tie in the row of ties? -/
theorem eqv_tie (t u : Int × Int) : PyData.eqv (tieD t) (tieD u) = decide (t = u) := by
  have e : PyData.eqv (tieD t) (tieD u) = (t.1 == u.1 && t.2 == u.2) := by simp [tieD, PyData.eqv, PyData.eqvAll]
  rw [e, Bool.eq_iff_iff]
  simp only [Bool.and_eq_true, beq_iff_eq, decide_eq_true_eq, Prod.ext_iff]
theorem any_tie (ts : List (Int × Int)) (u : Int × Int) : (ts.map tieD).any (fun y => PyData.eqv y (tieD u)) = decide (u ∈ ts) := by
  induction ts with
  | nil => rfl
  | cons t ts ih =>
    rw [List.map_cons, List.any_cons, ih, eqv_tie, Bool.eq_iff_iff]
    simp only [Bool.or_eq_true, decide_eq_true_eq, List.mem_cons]
    exact ⟨fun h => h.imp Eq.symm _root_.id, fun h => h.imp Eq.symm _root_.id⟩
theorem lay_ties : ∀ ts : List (Int × Int), PyData.canLayAll0 (ts.map tieD) = true
  | [] => rfl
  | t :: ts => by
    rw [List.map_cons]
    simp only [PyData.canLayAll0, lay_ties ts, tieD, PyData.canLay0, Bool.and_self]
theorem lay_tie (t : Int × Int) : (tieD t).canLay0 = true := by simp only [tieD, PyData.canLay0, PyData.canLayAll0, Bool.and_self]
theorem depth_tie (t : Int × Int) : (tieD t).depth ≤ 10 := by simp [tieD, PyData.depth, PyData.depthAll]
def rTieIn (K : PySem.W.Frag) (neg : Bool) : R2 := fun x y H Q => ∃ (a : Addr) (ys : List V) (ts : List (Int × Int)) (u : Int × Int), y = .ref a ∧ SqT K H a ys ∧ Paired (TieAt K H) ys ts ∧ TieAt K H x u ∧ Q (.bl (if neg then !decide (u ∈ ts) else decide (u ∈ ts))) H
section
variable {X : Cx}
theorem op_tieIn (hu : X.A.units + 64 < cLine) : OpR X (compareOp .In) (rTieIn X.K false) := by
  intro pins s σ H x y v u Q I rx ry h
  obtain ⟨a, ys, ts, t, rfl, ha, hp, ht, q⟩ := h
  obtain ⟨as, r1⟩ := Dp.reads I (tieD t) x v ht.dp rx
  obtain ⟨bs, r2⟩ := Dp.reads I (.tuple (ts.map tieD)) (.ref a) u (.tup ha (ties_dp hp)) ry
  have := depth_tie t
  exact SeqAt.in_tuple_reads r2 r1 (lay_ties ts) (lay_tie t) (by have := Nat.min_le_right (PyData.depthAll (ts.map tieD)) (tieD t).depth; omega) ⟨.bl _, H, I, rfl, by rw [any_tie]; exact q⟩
theorem op_tieNotIn (hu : X.A.units + 64 < cLine) : OpR X (compareOp .NotIn) (rTieIn X.K true) := by
  intro pins s σ H x y v u Q I rx ry h
  obtain ⟨a, ys, ts, t, rfl, ha, hp, ht, q⟩ := h
  obtain ⟨as, r1⟩ := Dp.reads I (tieD t) x v ht.dp rx
  obtain ⟨bs, r2⟩ := Dp.reads I (.tuple (ts.map tieD)) (.ref a) u (.tup ha (ties_dp hp)) ry
  have := depth_tie t
  exact SeqAt.notIn_tuple_reads r2 r1 (lay_ties ts) (lay_tie t) (by have := Nat.min_le_right (PyData.depthAll (ts.map tieD)) (tieD t).depth; omega) ⟨.bl _, H, I, rfl, by rw [any_tie]; exact q⟩
/-- what is not come to -/
theorem ps_never {st : Stmt} : PS X st (fun _ _ _ => False) := ⟨fun pins s σ H D I h => h.elim⟩
theorem pe_never {e : Expr} : PE X e (fun _ _ _ => False) := ⟨fun pins s σ H Q I h => h.elim⟩
end
end Y
namespace Y
open PySem
def top (i : Nat) : Stmt := PySem.Challenge.pw_slideyards_k06_whole_moves_taken_back.main.body.getD i (.Pass ⟨0, 0, 0, 0⟩)
end Y
set_option Elab.async false
set_option linter.all false
set_option maxRecDepth 100000
set_option maxHeartbeats 4000000
namespace Y
open PySem L2
abbrev sPen : Stmt := top 24
abbrev sDraw : Stmt := top 25
abbrev sPick : Stmt := top 26
structure TxP (K : PySem.W.Frag) (mg : Str → Option Value) (fDraw : Addr) : Prop where
  int : mg "int" = none
  list : mg "list" = none
  len : mg "len" = none
  gDraw : mg "_law_draw" = some (.ref fDraw)
section
variable {P : Program} {w : World} {K : PySem.W.Frag} {mg : Str → Option Value} {base : Heap}
theorem scPen : FnScope ["_law_script", "_law_fold", "_law_cell"] ["_law_script"] (defScope sPen) := ⟨rfl, rfl, rfl, by decide +kernel, rfl, by decide +kernel, by decide +kernel⟩
theorem ok_pen {f fDraw : Addr} {fd : FuncData} (F : Fun K "_law_pen" "_law_pen" sPen f fd) (T : TxP K mg fDraw) : FnOk P w K mg base CX0 1 f fd ["_law_script"] (spPen K) := by
  refine F.ok scPen (fun vs H Q E h => ?_) (fun cdv A outer s H vs Q E hr h => ?_)
  · obtain ⟨a, ns, rfl, _⟩ := h
    rfl
  · obtain ⟨a, ns, rfl, hS, hlen, k⟩ := h
    refine ⟨_, pss_cons (ps_set (i := 1) scPen.nd rfl (Or.inl rfl) pe_int)
      (pss_cons (ps_for PassesOwn.never rfl (pi_list (pv 0)) (pg_name (i := 2) scPen.nd rfl (Or.inl rfl))
        (pss_one (ps_set (i := 1) scPen.nd rfl (Or.inl rfl) (pe_op op_mod (pe_callTy call_int1 (by rfl) T.int (by decide +kernel) (pa_cons (pe_op op_add (pe_op op_mul (pv 1) pe_int) (pv 2)) pa_nil)) pe_int))))
      (pss_one (ps_ret (pe_disp (pps_cons pe_str (pe_callTy call_list_of (by rfl) T.list (by decide +kernel) (pa_cons (pv 0) pa_nil)) (pps_cons pe_str pe_int (pps_cons pe_str pe_int (pps_cons pe_str pe_int (pps_cons pe_str (pv 1) pps_nil))))) (by rfl) (by rfl) (fun z => by cases z) (by decide))))), ?_⟩
    refine ⟨_, rfl, a, rfl, ⟨_, hS⟩, for_list (K := K) (a := a) (xs := ns.map V.int) (fun i σ H2 => ∃ (f : Int) (v : Option V), σ = [some (.ref a), some (.int f), v] ∧ H2 = H ∧ 0 ≤ f ∧ f < 1000000007)
      ⟨0, none, rfl, rfl, by decide, by decide⟩ (fun i σ H2 _ ⟨_, _, _, e, _⟩ => by rw [e]; exact hS) ?_ ?_⟩
    · rintro i y σ H2 hi ⟨f, v, rfl, rfl, h0, h1⟩
      obtain ⟨z, rfl⟩ : ∃ z, y = V.int z := by
        rw [List.getElem?_map] at hi
        cases e : ns[i]? with
        | none =>
          rw [e] at hi
          cases hi
        | some z =>
          rw [e] at hi
          exact ⟨z, (Option.some.inj hi).symm⟩
      refine ⟨_, rfl, _, _, rfl, rfl, .inl ⟨by omega, by omega⟩, _, rfl, _, _, rfl, rfl, .inl ⟨_, rfl, _, _, rfl, rfl, (by show (0 : Int) < 1000000007; decide), ?_⟩⟩
      exact ⟨_, _, rfl, rfl, Int.emod_nonneg _ (by decide), Int.emod_lt_of_pos _ (by decide)⟩
    · rintro σ H2 ⟨f, v, rfl, rfl, h0, h1⟩
      intro p hp
      refine ⟨_, rfl, a, _, rfl, .inl ((Same.new hp).seq hS), fun l hl => ?_⟩
      have hpl : p ≠ l := fun e => by rw [← e, upd_same] at hl; cases hl
      have hl0 : H2 l = none := by rw [upd_ne (Ne.symm hpl)] at hl; exact hl
      refine ⟨_, rfl, (by rw [upd_ne hpl]; exact upd_same), [(Sum.inr "cells", .ref l), (Sum.inr "at", .int 0), (Sum.inr "digits", .int 0), (Sum.inr "count", .int 0), (Sum.inr "fold", .int f)], rfl, (by show 5 ≤ 15; decide), ?_⟩
      refine k p l _ ⟨⟨ns, 0, 0, 0, f, ?_, ?_, hlen, by decide, by decide, by decide, by decide, h0, by omega⟩⟩ ?_ hp
      · rw [upd_same]
        exact congrArg (fun z => some (HO.dK z)) pen_merge
      · rw [upd_ne (Ne.symm hpl)]; exact upd_same
      · intro b o e
        rw [upd_ne (ne_of_none e hp), upd_ne (ne_of_none e hl0), upd_ne (ne_of_none e hp)]
        exact e
theorem scDraw : FnScope ["_law_pen_here", "_law_many", "_law_cell", "_law_digit", "_law_blend"] ["_law_pen_here", "_law_many"] (defScope sDraw) := ⟨rfl, rfl, rfl, by decide +kernel, rfl, by decide +kernel, by decide +kernel⟩
theorem ok_draw {f fDraw : Addr} {fd : FuncData} (F : Fun K "_law_draw" "_law_draw" sDraw f fd) (T : TxP K mg fDraw) : FnOk P w K mg base CX0 1 f fd ["_law_pen_here", "_law_many"] spDraw := by
  refine F.ok scDraw (fun vs H Q E h => ?_) (fun cdv A outer s H vs Q E hr h => ?_)
  · obtain ⟨p, l, m, b, rfl, _⟩ := h
    rfl
  · obtain ⟨p, l, m, b, rfl, hP, hm0, hm1, k⟩ := h
    have hu := hu_of hr
    obtain ⟨ns, a, g, c, f, hp, hl, hlen, ha, hg, hc, hcb, hf0, hf1⟩ := hP.ex
    refine ⟨_, pss_cons (ps_dput hu (pv 0) pe_str (pe_op op_add (pe_dget hu (pv 0) pe_str (fun _ _ => rfl)) pe_int) rfl)
      (C8.pss_cut (ps_if (PW.pt (pw_and (pt_cmpR op_eq (pe_dget hu (pv 0) pe_str (fun _ _ => rfl)) pe_int (nomark _)) (pw_and1 (pt_cmpR op_lt (pe_dget hu (pv 0) pe_str (fun _ _ => rfl)) (pe_callB call_len_seq (by rfl) T.len PySem.boot_len (pa_cons (pe_dget hu (pv 0) pe_str (fun _ _ => rfl)) pa_nil)) (nomark _)))))
        (pss_cons (ps_set (i := 2) scDraw.nd rfl (Or.inl rfl) (pe_ix ix_list (pe_dget hu (pv 0) pe_str (fun _ _ => rfl)) (pe_dget hu (pv 0) pe_str (fun _ _ => rfl)) (fun _ _ => rfl)))
        (pss_cons (ps_dput hu (pv 0) pe_str (pe_op op_add (pe_dget hu (pv 0) pe_str (fun _ _ => rfl)) pe_int) rfl)
        (pss_one (ps_if (pt_cmpR op_ge (pv 2) (pe_op op_pow pe_int pe_int) (nomark _))
          (pss_one (ps_dput hu (pv 0) pe_str (pe_op op_sub (pv 2) (pe_op op_pow pe_int pe_int)) rfl))
          (pss_one (ps_dput hu (pv 0) pe_str (pe_op op_mod (pe_callTy call_int1 (by rfl) T.int (by decide +kernel) (pa_cons (pe_op op_add (pe_op op_mul (pe_dget hu (pv 0) pe_str (fun _ _ => rfl)) pe_int) (pv 2)) pa_nil)) pe_int) rfl))))))
        pss_nil)
      (pss_cons (ps_if (pt_cmpR op_gt (pe_dget hu (pv 0) pe_str (fun _ _ => rfl)) pe_int (nomark _))
        (pss_cons (ps_set (i := 3) scDraw.nd rfl (Or.inl rfl) (pe_op op_mod (pe_callTy call_int1 (by rfl) T.int (by decide +kernel) (pa_cons (pe_dget hu (pv 0) pe_str (fun _ _ => rfl)) pa_nil)) (pv 1)))
        (pss_cons (ps_dput hu (pv 0) pe_str (pe_op op_fdivW (pe_dget hu (pv 0) pe_str (fun _ _ => rfl)) (pv 1)) rfl)
        (pss_one (ps_ret (pv 3)))))
        pss_nil)
      (pss_cons (ps_set (i := 4) scDraw.nd rfl (Or.inl rfl) (pe_op op_add (pe_op op_add (pe_dget hu (pv 0) pe_str (fun _ _ => rfl)) (pe_op op_mul (pe_dget hu (pv 0) pe_str (fun _ _ => rfl)) pe_int)) pe_int))
      (pss_one (ps_ret (pe_op op_mod (pe_op op_fdiv (pe_callTy call_int1 (by rfl) T.int (by decide +kernel) (pa_cons (pe_op op_mod (pe_op op_pow (pv 4) pe_int) pe_int) pa_nil)) pe_int) (pv 1))))))), ?_⟩
    have hlp : l ≠ p := ne_of hl hp (by intro z; cases z)
    have e1 : ∀ {a' g' c' f' : Int}, (upd H p (.dK (penD l a' g' c' f'))) p = some (.dK (penD l a' g' c' f')) := upd_same
    have mk : ∀ {a' g' c' f' : Int}, 0 ≤ a' → 0 ≤ g' → 0 ≤ c' → c' + (b : Int) ≤ 2 ^ 40 → 0 ≤ f' → f' < 2147483587 → Pen (upd H p (.dK (penD l a' g' c' f'))) p l b := fun h2 h3 h4 h5 h6 h7 =>
      ⟨ns, _, _, _, _, upd_same, by rw [upd_ne hlp]; exact hl, hlen, h2, h3, h4, h5, h6, h7⟩
    refine ⟨_, rfl, _, _, rfl, get_count hp, _, _, rfl, rfl, _, rfl, _, _, rfl, dput_count hp, ?_⟩
    refine ⟨fun σ' H' => ∃ (a' g' f' : Int) (v : Option V), σ' = [some (.ref p), some (.int m), v, none, none] ∧ H' = upd H p (.dK (penD l a' g' (c + 1) f')) ∧ 0 ≤ a' ∧ 0 ≤ g' ∧ 0 ≤ f' ∧ f' < 2147483587, ?_, ?_⟩
    · refine ⟨_, rfl, _, _, rfl, get_digits e1, rfl, _, rfl, ?_⟩
      refine ite2 (fun hd => ?_) (fun hd => ?_)
      · refine ⟨_, rfl, _, _, rfl, get_at e1, _, rfl, _, _, rfl, get_cells e1, l, _, rfl, .inl (.inl (.inl (by rw [upd_ne hlp]; exact hl))), _, _, rfl, rfl, _, rfl, ?_⟩
        refine ite2 (fun hd2 => ?_) (fun hd2 => ?_)
        · have hd3 : a < ((ns.map V.int).length : Int) := of_decide_eq_true hd2
          obtain ⟨y, hy, hy2⟩ := there_int ha hd3
          obtain ⟨z, hz, rfl⟩ := ints_at hy
          refine ⟨_, rfl, _, _, rfl, get_cells e1, _, rfl, _, _, rfl, get_at e1, l, _, a, _, rfl, rfl, .inl (.inl (by rw [upd_ne hlp]; exact hl)), hy2, ?_⟩
          refine ⟨_, rfl, _, _, rfl, get_at e1, _, _, rfl, rfl, _, rfl, _, _, rfl, dput_at, ?_⟩
          refine ⟨_, rfl, _, _, rfl, rfl, ⟨by decide, by decide, by decide⟩, _, _, rfl, rfl, _, rfl, ?_⟩
          refine ite2 (fun hd4 => ?_) (fun hd4 => ?_)
          · have hd5 : (10 : Int) ^ (18 : Int).toNat ≤ z := of_decide_eq_true hd4
            refine ⟨_, rfl, _, _, rfl, rfl, ⟨by decide, by decide, by decide⟩, _, _, rfl, rfl, _, rfl, _, _, rfl, dput_digits, ?_⟩
            exact ⟨_, _, _, _, rfl, rfl, by omega, by omega, hf0, hf1⟩
          · refine ⟨_, rfl, _, _, rfl, get_fold e1, _, _, rfl, rfl, .inl ⟨by omega, by omega⟩, _, rfl, _, _, rfl, rfl, .inl ⟨_, rfl, _, _, rfl, rfl, (by show (0 : Int) < 2147483587; decide), _, rfl, _, _, rfl, dput_fold, ?_⟩⟩
            exact ⟨_, _, _, _, rfl, rfl, by omega, hg, Int.emod_nonneg _ (by decide), Int.emod_lt_of_pos _ (by decide)⟩
        · exact ⟨_, _, _, _, rfl, rfl, ha, hg, hf0, hf1⟩
      · exact ⟨_, _, _, _, rfl, rfl, ha, hg, hf0, hf1⟩
    · rintro σ' H' ⟨a', g', f', v, rfl, rfl, ha', hg', hf0', hf1'⟩
      refine ⟨_, rfl, _, _, rfl, get_digits e1, _, _, rfl, rfl, _, rfl, ?_⟩
      refine ite2 (fun hd => ?_) (fun hd => ?_)
      · refine ⟨_, rfl, _, _, rfl, get_digits e1, .inl ⟨_, rfl, _, rfl, _, _, rfl, rfl, hm0, ?_⟩⟩
        refine ⟨_, rfl, _, _, rfl, get_digits e1, _, rfl, _, _, rfl, rfl, wide_div hm0 (b := 41) (by omega) (by decide) (by decide), _, rfl, _, _, rfl, dput_digits, ?_⟩
        refine ⟨_, rfl, ?_⟩
        exact k _ _ (Int.emod_nonneg _ (by omega)) (Int.emod_lt_of_pos _ hm0) (mk ha' (Int.ediv_nonneg hg' (by omega)) (by omega) (by omega) hf0' hf1') But.upd
      · refine ⟨_, rfl, _, _, rfl, get_fold e1, _, rfl, _, _, rfl, get_count e1, _, _, rfl, rfl, .inl ⟨by omega, by omega⟩, _, _, rfl, rfl, _, _, rfl, rfl, ?_⟩
        refine ⟨_, rfl, _, _, rfl, rfl, ⟨by decide, by decide, by omega⟩, _, _, rfl, rfl, (by show (0 : Int) < 2305843009213693951; decide), .inl ⟨_, rfl, _, _, rfl, rfl, ⟨by decide, by decide⟩, _, rfl, _, _, rfl, rfl, hm0, ?_⟩⟩
        exact k _ _ (Int.emod_nonneg _ (by omega)) (Int.emod_lt_of_pos _ hm0) (mk ha' hg' (by omega) (by omega) hf0' hf1') But.upd
theorem scPick : FnScope ["_law_pen_here", "_law_some"] ["_law_pen_here", "_law_some"] (defScope sPick) := ⟨rfl, rfl, rfl, by decide +kernel, rfl, by decide +kernel, by decide +kernel⟩
theorem ok_pick {f fDraw : Addr} {fd fdDraw : FuncData} (F : Fun K "_law_pick" "_law_pick" sPick f fd) (T : TxP K mg fDraw) (FD : Fun K "_law_draw" "_law_draw" sDraw fDraw fdDraw) (bD : Binds K fdDraw ["_law_pen_here", "_law_many"] []) :
    FnOk P w K mg base CX0 2 f fd ["_law_pen_here", "_law_some"] (spPick K) := by
  have GD : FnOk P w K mg base CX0 1 fDraw fdDraw ["_law_pen_here", "_law_many"] spDraw := ok_draw FD T
  refine F.ok scPick (fun vs H Q E h => ?_) (fun cdv A outer s H vs Q E hr h => ?_)
  · obtain ⟨p, q, l, xs, b, rfl, _⟩ := h
    rfl
  · obtain ⟨p, q, l, xs, b, rfl, hP, hl, hne, hz, k⟩ := h
    refine ⟨_, pss_one (ps_ret (pe_ix (IxR.or ix_list ix_tup) (pv 1) (pe_call GD hr (by rfl) T.gDraw FD.kp bD .nil pass0 (pa_cons (pv 0) (pa_cons (pe_callB call_len_seq (by rfl) T.len PySem.boot_len (pa_cons (pv 1) pa_nil)) pa_nil))) (fun _ _ => rfl))), ?_⟩
    have hpos := List.length_pos_iff.mpr hne
    obtain ⟨kvs, hpd⟩ := hP.there
    refine ⟨_, rfl, _, rfl, _, rfl, l, xs, rfl, hl, p, q, _, b, rfl, hP, by omega, by omega, fun n H' h0 h1 hP' hB => ?_⟩
    obtain ⟨y, hy, hy2⟩ := there_int h0 h1
    rcases hl with hl | hl
    · exact .inl ⟨l, xs, n, y, rfl, rfl, hB.seq hpd hl, hy2, k y _ _ hy hP' hB⟩
    · exact .inr ⟨l, xs, n, y, rfl, rfl, hB.seqT hpd hl, hy2, k y _ _ hy hP' hB⟩
end
end Y
set_option Elab.async false
set_option linter.all false
set_option maxRecDepth 100000
set_option maxHeartbeats 4000000
namespace Y
open PySem L2
abbrev sRing : Stmt := top 29
abbrev sStand : Stmt := top 30
abbrev sShuf : Stmt := top 33
structure TG (K : PySem.W.Frag) (mg : Str → Option Value) (fDraw : Addr) : Prop where
  p : TxP K mg fDraw
  range : mg "range" = none
  tuple : mg "tuple" = none
/-! ### promises -/
def spShuf (K : PySem.W.Frag) : Sp := fun vs H Q _ => ∃ (p c s : Addr) (xs : List V) (b : Nat), vs = [.ref p, .ref s] ∧ Pen H p c (b + xs.length) ∧ (SqL K H s xs ∨ SqT K H s xs) ∧ xs.length ≤ 1000 ∧
  ∀ q ys H', ys.Perm xs → H' q = some (.lst ys) → Kp H H' → Pen H' p c b → Q (.ref q) H'
/-- distinct places, three or more -/
def RingOk (n : Nat) (r : List Int) : Prop := r.Nodup ∧ (∀ x ∈ r, 0 ≤ x ∧ x < n) ∧ 3 ≤ r.length ∧ r.length ≤ n
def spRing (K : PySem.W.Frag) : Sp := fun vs H Q _ => ∃ (p c : Addr) (n b : Nat), vs = [.ref p, .int (n : Int)] ∧ Pen H p c (b + (n + 1)) ∧ 3 ≤ n ∧ n ≤ 100 ∧
  ∀ q r H', RingOk n r → H' q = some (.tup (r.map V.int)) → Kp H H' → Pen H' p c b → Q (.ref q) H'
section
variable {P : Program} {w : World} {K : PySem.W.Frag} {mg : Str → Option Value} {base : Heap} {fDraw : Addr}
theorem scShuf : FnScope ["_law_pen_here", "_law_some", "_law_left", "_law_found", "_law_lap"] ["_law_pen_here", "_law_some"] (defScope sShuf) := ⟨rfl, rfl, rfl, by decide +kernel, rfl, by decide +kernel, by decide +kernel⟩
theorem ok_shuf {f : Addr} {fd fdD : FuncData} (F : Fun K "_law_shuffled" "_law_shuffled" sShuf f fd) (T : TG K mg fDraw) (FD : Fun K "_law_draw" "_law_draw" sDraw fDraw fdD) (bD : Binds K fdD ["_law_pen_here", "_law_many"] []) :
    FnOk P w K mg base CX0 2 f fd ["_law_pen_here", "_law_some"] (spShuf K) := by
  have GD : FnOk P w K mg base CX0 1 fDraw fdD ["_law_pen_here", "_law_many"] spDraw := ok_draw FD T.p
  refine F.ok scShuf (fun vs H Q E h => ?_) (fun cdv A outer s H vs Q E hr h => ?_)
  · obtain ⟨p, c, q, xs, b, rfl, _⟩ := h
    rfl
  · obtain ⟨p, c, q, xs, b, rfl, hP, hS, hl, k⟩ := h
    refine ⟨_, pss_cons (ps_par (i := 2) (j := 3) rfl scShuf.nd rfl rfl (by decide) rfl rfl (pa_cons (pe_callTy call_list_of (by rfl) T.p.list (by decide +kernel) (pa_cons (pv 1) pa_nil)) (pa_cons (pe_lst pa_nil) pa_nil)) (by rfl))
      (pss_cons (ps_for PassesOwn.never rfl (pi_range1 (by rfl) T.range (pa_cons (pe_callB call_len_seq (by rfl) T.p.len PySem.boot_len (pa_cons (pv 1) pa_nil)) pa_nil)) (pg_name (i := 4) scShuf.nd rfl (Or.inl rfl))
        (pss_one (ps_expr (pe_bm PySem.F.plainAttrs_list PySem.F.slot_list_append PySem.F.type_list_append mt_append (pv 3) (pa_cons
          (pe_bm PySem.F.plainAttrs_list PySem.F.slot_list_pop PySem.F.type_list_pop mt_popAt (pv 2) (pa_cons
            (pe_call GD hr (by rfl) T.p.gDraw FD.kp bD .nil pass0 (pa_cons (pv 0) (pa_cons (pe_callB call_len_seq (by rfl) T.p.len PySem.boot_len (pa_cons (pv 2) pa_nil)) pa_nil))) pa_nil)) pa_nil)))))
      (pss_one (ps_ret (pv 3)))), ?_⟩
    obtain ⟨kvs, hk⟩ := hP.there
    refine ⟨_, rfl, q, xs, rfl, hS, fun l hl0 => ⟨(by show 0 ≤ sizeLine; decide), fun g hg0 => ?_⟩⟩
    have hgl : g ≠ l := fun z => by rw [z, upd_same] at hg0; cases hg0
    have hg1 : H g = none := by rw [upd_ne hgl] at hg0; exact hg0
    have hpl : p ≠ l := fun z => by rw [z, hl0] at hk; cases hk
    have hpg : p ≠ g := fun z => by rw [z, hg1] at hk; cases hk
    have S0 : Same H (upd (upd H l (.lst xs)) g (.lst [])) := (Same.new hl0).trans (Same.new hg0)
    refine ⟨_, _, rfl, _, rfl, q, xs, rfl, (hS.imp S0.seq (Same.seqT S0)), (xs.length : Int), rfl, by omega, by omega, ?_⟩
    refine for_range (lo := 0) (n := ((xs.length : Int)).toNat) (fun i σ H' => ∃ (v : Option V) (L G : List V), σ = [some (.ref p), some (.ref q), some (.ref l), some (.ref g), v] ∧ H' l = some (.lst L) ∧ H' g = some (.lst G) ∧ (G ++ L).Perm xs ∧ G.length = i ∧ Kp H H' ∧ Pen H' p c (b + (xs.length - i)))
      ⟨none, xs, [], rfl, by rw [upd_ne (Ne.symm hgl)]; exact upd_same, upd_same, .refl _, rfl, .of_same S0, by rw [Nat.sub_zero]; exact hP.same S0⟩ ?_ ?_
    · rintro i σ H1 hi ⟨v, L, G, rfl, eL, eG, pm, hG, kp, P1⟩
      have hlen : L.length = xs.length - i := by have := pm.length_eq; rw [List.length_append] at this; omega
      have hi' : i < xs.length := by omega
      obtain ⟨kv1, hk1⟩ := P1.there
      refine ⟨_, rfl, .inl ⟨rfl, _, SqL.of eG⟩, _, rfl, .inl ⟨rfl, _, SqL.of eL⟩, _, rfl, _, rfl, l, L, rfl, .inl (SqL.of eL), p, c, _, b + (xs.length - (i + 1)), rfl, ?_, by omega, by omega, fun n H2 n0 n1 P2 B2 => ?_⟩
      · rw [show b + (xs.length - (i + 1)) + 1 = b + (xs.length - i) by omega]; exact P1
      · obtain ⟨y, hy⟩ := get_of_lt (l := L) n0 n1
        have eL2 := B2.keep hk1 eL (by intro z; cases z)
        have eG2 := B2.keep hk1 eG (by intro z; cases z)
        refine ⟨l, L, n, n.toNat, y, rfl, rfl, eL2, by omega, by omega, PySem.seqIndex_of n0 n1, hy, ?_⟩
        refine ⟨g, G, y, rfl, rfl, by rw [upd_ne hgl]; exact eG2, by rw [hG]; exact Nat.lt_of_lt_of_le (by omega : i < 1000) (by decide), ?_⟩
        refine ⟨_, L.eraseIdx n.toNat, G ++ [y], rfl, by rw [upd_ne (Ne.symm hgl)]; exact upd_same, upd_same, pop_perm hy pm, by rw [List.length_append, hG]; rfl, ((kp.trans (.of_but B2 hk1)).upd hl0).upd hg1, ?_⟩
        exact (P2.upd (hP.off hl0).1 (hP.off hl0).2).upd (hP.off hg1).1 (hP.off hg1).2
    · rintro σ H1 ⟨v, L, G, rfl, eL, eG, pm, hG, kp, P1⟩
      have hlen : L.length = 0 := by have := pm.length_eq; rw [List.length_append] at this; omega
      rw [List.eq_nil_of_length_eq_zero hlen, List.append_nil] at pm
      refine ⟨_, rfl, ?_⟩
      refine k g G H1 pm eG kp ?_
      exact P1.less (by omega)
/-! ### rows of ints -/
theorem map_nodup {r : List Int} : (r.map V.int).Nodup ↔ r.Nodup := by
  induction r with
  | nil => simp
  | cons a r ih =>
    rw [List.map_cons, List.nodup_cons, List.nodup_cons, ih]
    refine and_congr (not_congr ⟨fun h => ?_, fun h => List.mem_map.mpr ⟨a, h, rfl⟩⟩) Iff.rfl
    obtain ⟨b, hb, e⟩ := List.mem_map.mp h
    cases e
    exact hb
theorem rgV_mem {n : Nat} {v : V} (h : v ∈ rgV 0 (n : Int)) : ∃ z : Int, v = .int z ∧ 0 ≤ z ∧ z < n := by
  obtain ⟨i, hi, rfl⟩ := List.mem_map.mp h
  rw [List.mem_range] at hi
  exact ⟨_, rfl, by omega, by omega⟩
theorem rgV_nodup (n : Nat) : (rgV 0 (n : Int)).Nodup := by
  have e : rgV 0 (n : Int) = ((List.range n).map fun i : Nat => (0 : Int) + (i : Nat)).map V.int := by
    unfold rgV
    rw [List.map_map, show ((n : Int) - 0).toNat = n by omega]
    rfl
  rw [e, map_nodup]
  refine List.Pairwise.map _ (fun a b (h : a ≠ b) => ?_) List.nodup_range
  intro z
  exact h (by omega)
theorem ints_of {l : List V} (h : ∀ v ∈ l, ∃ z : Int, v = .int z) : ∃ r : List Int, l = r.map V.int := by
  induction l with
  | nil => exact ⟨[], rfl⟩
  | cons a l ih =>
    obtain ⟨z, rfl⟩ := h a List.mem_cons_self
    obtain ⟨r, rfl⟩ := ih fun v hv => h v (List.mem_cons_of_mem _ hv)
    exact ⟨z :: r, rfl⟩
theorem ring_of {n : Nat} {G L : List V} (p : (G ++ L).Perm (rgV 0 (n : Int))) : ∃ r : List Int, G = r.map V.int ∧ r.Nodup ∧ ∀ x ∈ r, 0 ≤ x ∧ x < n := by
  have m : ∀ v ∈ G, ∃ z : Int, v = .int z ∧ 0 ≤ z ∧ z < n := fun v hv => rgV_mem (p.mem_iff.mp (List.mem_append.mpr (.inl hv)))
  obtain ⟨r, rfl⟩ := ints_of fun v hv => (m v hv).imp fun z h => h.1
  refine ⟨r, rfl, map_nodup.mp (List.nodup_append.mp ((p.nodup_iff).mpr (rgV_nodup n))).1, fun x hx => ?_⟩
  obtain ⟨z, e, h⟩ := m _ (List.mem_map.mpr ⟨x, hx, rfl⟩)
  cases e
  exact h
theorem scRing : FnScope ["_law_pen_here", "_law_places", "_law_left", "_law_ring", "_law_lap"] ["_law_pen_here", "_law_places"] (defScope sRing) := ⟨rfl, rfl, rfl, by decide +kernel, rfl, by decide +kernel, by decide +kernel⟩
theorem ok_ring {f : Addr} {fd fdD : FuncData} (F : Fun K "_law_drawn_ring" "_law_drawn_ring" sRing f fd) (T : TG K mg fDraw) (FD : Fun K "_law_draw" "_law_draw" sDraw fDraw fdD) (bD : Binds K fdD ["_law_pen_here", "_law_many"] []) :
    FnOk P w K mg base CX0 2 f fd ["_law_pen_here", "_law_places"] (spRing K) := by
  have GD : FnOk P w K mg base CX0 1 fDraw fdD ["_law_pen_here", "_law_many"] spDraw := ok_draw FD T.p
  refine F.ok scRing (fun vs H Q E h => ?_) (fun cdv A outer s H vs Q E hr h => ?_)
  · obtain ⟨p, c, n, b, rfl, _⟩ := h
    rfl
  · obtain ⟨p, c, n, b, rfl, hP, n3, n100, k⟩ := h
    refine ⟨_, pss_cons (ps_par (i := 2) (j := 3) rfl scRing.nd rfl rfl (by decide) rfl rfl (pa_cons (pe_listRg rfl (by rfl) T.p.list (prg_1 (by rfl) T.range (pv 1))) (pa_cons (pe_lst pa_nil) pa_nil)) (by rfl))
      (pss_cons (ps_for PassesOwn.never rfl (pi_range1 (by rfl) T.range (pa_cons (pe_op op_add pe_int (pe_call GD hr (by rfl) T.p.gDraw FD.kp bD .nil pass0 (pa_cons (pv 0) (pa_cons (pe_op op_sub (pv 1) pe_int) pa_nil)))) pa_nil)) (pg_name (i := 4) scRing.nd rfl (Or.inl rfl))
        (pss_one (ps_expr (pe_bm PySem.F.plainAttrs_list PySem.F.slot_list_append PySem.F.type_list_append mt_append (pv 3) (pa_cons
          (pe_bm PySem.F.plainAttrs_list PySem.F.slot_list_pop PySem.F.type_list_pop mt_popAt (pv 2) (pa_cons
            (pe_call GD hr (by rfl) T.p.gDraw FD.kp bD .nil pass0 (pa_cons (pv 0) (pa_cons (pe_callB call_len_seq (by rfl) T.p.len PySem.boot_len (pa_cons (pv 2) pa_nil)) pa_nil))) pa_nil)) pa_nil)))))
      (pss_one (ps_ret (pe_callTy call_tuple_of (by rfl) T.tuple (by decide +kernel) (pa_cons (pv 3) pa_nil))))), ?_⟩
    refine ⟨_, rfl, _, rfl, RgOk.of_le (by decide) (by omega) (by decide) (by omega), fun l hl0 => ⟨(by show 0 ≤ sizeLine; decide), fun g hg0 => ?_⟩⟩
    have hgl : g ≠ l := fun z => by rw [z, upd_same] at hg0; cases hg0
    have hg1 : H g = none := by rw [upd_ne hgl] at hg0; exact hg0
    have S0 : Same H (upd (upd H l (.lst (rgV 0 (n : Int)))) g (.lst [])) := (Same.new hl0).trans (Same.new hg0)
    have hxl : (rgV 0 (n : Int)).length = n := by rw [rgV_length]; omega
    have P0 := hP.same S0
    obtain ⟨kv0, hk0⟩ := P0.there
    refine ⟨_, _, rfl, _, rfl, _, rfl, _, _, rfl, rfl, p, c, _, b + n, rfl, P0, by omega, by omega, fun d H1 d0 d1 P1 B1 => ?_⟩
    refine ⟨_, _, rfl, rfl, (3 + d : Int), rfl, by omega, by omega, ?_⟩
    refine for_range (lo := 0) (n := ((3 + d : Int)).toNat) (fun i σ H' => ∃ (v : Option V) (L G : List V), σ = [some (.ref p), some (.int (n : Int)), some (.ref l), some (.ref g), v] ∧ H' l = some (.lst L) ∧ H' g = some (.lst G) ∧ (G ++ L).Perm (rgV 0 (n : Int)) ∧ G.length = i ∧ Kp H H' ∧ Pen H' p c (b + (n - i)))
      ⟨none, rgV 0 (n : Int), [], rfl, B1.keep hk0 (by rw [upd_ne (Ne.symm hgl)]; exact upd_same) (by intro z; cases z), B1.keep hk0 upd_same (by intro z; cases z), .refl _, rfl, (Kp.of_same S0).trans (.of_but B1 hk0), by rw [Nat.sub_zero]; exact P1⟩ ?_ ?_
    · rintro i σ H1 hi ⟨v, L, G, rfl, eL, eG, pm, hG, kp, P1⟩
      have hlen : L.length = n - i := by have := pm.length_eq; rw [List.length_append, hxl] at this; omega
      have hi' : i < n := by omega
      obtain ⟨kv1, hk1⟩ := P1.there
      refine ⟨_, rfl, .inl ⟨rfl, _, SqL.of eG⟩, _, rfl, .inl ⟨rfl, _, SqL.of eL⟩, _, rfl, _, rfl, l, L, rfl, .inl (SqL.of eL), p, c, _, b + (n - (i + 1)), rfl, ?_, by omega, by omega, fun z H2 n0 n1 P2 B2 => ?_⟩
      · rw [show b + (n - (i + 1)) + 1 = b + (n - i) by omega]; exact P1
      · obtain ⟨y, hy⟩ := get_of_lt (l := L) n0 n1
        have eL2 := B2.keep hk1 eL (by intro z; cases z)
        have eG2 := B2.keep hk1 eG (by intro z; cases z)
        refine ⟨l, L, z, z.toNat, y, rfl, rfl, eL2, by omega, by omega, PySem.seqIndex_of n0 n1, hy, ?_⟩
        refine ⟨g, G, y, rfl, rfl, by rw [upd_ne hgl]; exact eG2, by rw [hG]; exact Nat.lt_of_lt_of_le (by omega : i < 1000) (by decide), ?_⟩
        refine ⟨_, L.eraseIdx z.toNat, G ++ [y], rfl, by rw [upd_ne (Ne.symm hgl)]; exact upd_same, upd_same, pop_perm hy pm, by rw [List.length_append, hG]; rfl, ((kp.trans (.of_but B2 hk1)).upd hl0).upd hg1, ?_⟩
        exact (P2.upd (hP.off hl0).1 (hP.off hl0).2).upd (hP.off hg1).1 (hP.off hg1).2
    · rintro σ H1 ⟨v, L, G, rfl, eL, eG, pm, hG, kp, P1⟩
      obtain ⟨r, rfl, rn, rb⟩ := ring_of pm
      rw [List.length_map] at hG
      refine ⟨_, rfl, g, _, rfl, .inl ⟨SqL.of eG, fun t ht => ?_⟩⟩
      exact k t r _ ⟨rn, rb, by omega, by omega⟩ upd_same (kp.trans (.new ht)) ((P1.same (Same.new ht)).less (by omega))
end
end Y
set_option Elab.async false
set_option linter.all false
set_option maxRecDepth 100000
set_option maxHeartbeats 4000000
namespace Y
open PySem L2
/-- a row of n things -/
def StandOk (n : Nat) (st : List Int) : Prop := st.length = n ∧ ∀ x ∈ st, 0 ≤ x ∧ x ≤ 1000
def spStand (K : PySem.W.Frag) : Sp := fun vs H Q _ => ∃ (p c : Addr) (n h b : Nat) (kd : Bool), vs = [.ref p, .int (n : Int), .int (h : Int), .bl kd] ∧ Pen H p c (b + 2 * n) ∧ h ≤ n ∧ n ≤ 100 ∧
  ∀ q st H', StandOk n st → H' q = some (.tup (st.map V.int)) → Kp H H' → Pen H' p c b → Q (.ref q) H'
theorem map_set {l : List Int} {j : Nat} {z : Int} : (l.map V.int).set j (.int z) = (l.set j z).map V.int := (List.map_set).symm
section
variable {P : Program} {w : World} {K : PySem.W.Frag} {mg : Str → Option Value} {base : Heap} {fDraw : Addr}
theorem scStand : FnScope ["_law_pen_here", "_law_places", "_law_holes", "_law_kinds", "_law_left", "_law_stand", "_law_things", "_law_k", "_law_thing"] ["_law_pen_here", "_law_places", "_law_holes", "_law_kinds"] (defScope sStand) := ⟨rfl, rfl, rfl, by decide +kernel, rfl, by decide +kernel, by decide +kernel⟩
theorem ok_stand {f : Addr} {fd fdD : FuncData} (F : Fun K "_law_drawn_stand" "_law_drawn_stand" sStand f fd) (T : TG K mg fDraw) (FD : Fun K "_law_draw" "_law_draw" sDraw fDraw fdD) (bD : Binds K fdD ["_law_pen_here", "_law_many"] []) :
    FnOk P w K mg base CX0 2 f fd ["_law_pen_here", "_law_places", "_law_holes", "_law_kinds"] (spStand K) := by
  have GD : FnOk P w K mg base CX0 1 fDraw fdD ["_law_pen_here", "_law_many"] spDraw := ok_draw FD T.p
  refine F.ok scStand (fun vs H Q E h => ?_) (fun cdv A outer s H vs Q E hr h => ?_)
  · obtain ⟨p, c, n, h, b, kd, rfl, _⟩ := h
    rfl
  · obtain ⟨p, c, n, h, b, kd, rfl, hP, hhn, n100, k⟩ := h
    refine ⟨_, pss_cons (ps_par (i := 4) (j := 5) rfl scStand.nd rfl rfl (by decide) rfl rfl (pa_cons (pe_listRg rfl (by rfl) T.p.list (prg_1 (by rfl) T.range (pv 1))) (pa_cons (pe_op op_rep (pe_lst (pa_cons pe_int pa_nil)) (pv 1)) pa_nil)) (by rfl))
      (pss_cons (ps_set (i := 6) scStand.nd rfl (Or.inl rfl) (pe_lst pa_nil))
      (pss_cons (ps_for PassesOwn.never rfl (pi_range1 (by rfl) T.range (pa_cons (pe_op op_sub (pv 1) (pv 2)) pa_nil)) (pg_name (i := 7) scStand.nd rfl (Or.inl rfl))
        (pss_one (ps_expr (pe_bm PySem.F.plainAttrs_list PySem.F.slot_list_append PySem.F.type_list_append mt_append (pv 6) (pa_cons
          (pe_ifExp (pt_val (pv 3)) (pe_op op_add pe_int (pe_call GD hr (by rfl) T.p.gDraw FD.kp bD .nil pass0 (pa_cons (pv 0) (pa_cons pe_int pa_nil)))) (pe_op op_add (pv 7) pe_int)) pa_nil)))))
      (pss_cons (ps_for PassesOwn.never rfl (pi_list (pv 6)) (pg_name (i := 8) scStand.nd rfl (Or.inl rfl))
        (pss_one (ps_asg (pv 8) (pg_sub (pv 5) (pe_bm PySem.F.plainAttrs_list PySem.F.slot_list_pop PySem.F.type_list_pop mt_popAt (pv 4) (pa_cons
            (pe_call GD hr (by rfl) T.p.gDraw FD.kp bD .nil pass0 (pa_cons (pv 0) (pa_cons (pe_callB call_len_seq (by rfl) T.p.len PySem.boot_len (pa_cons (pv 4) pa_nil)) pa_nil))) pa_nil)) set_list))))
      (pss_one (ps_ret (pe_callTy call_tuple_of (by rfl) T.tuple (by decide +kernel) (pa_cons (pv 5) pa_nil))))))), ?_⟩
    have hxl : (rgV 0 (n : Int)).length = n := by rw [rgV_length]; omega
    refine ⟨_, rfl, _, rfl, RgOk.of_le (by decide) (by omega) (by decide) (by omega), fun l hl0 => ⟨(by show 1 ≤ sizeLine; decide), fun x hx0 => ?_⟩⟩
    refine ⟨_, rfl, x, (n : Int), [.int 0], rfl, rfl, upd_same, by omega, by omega, (by
      show 1 * ((n : Int)).toNat ≤ sizeLine
      have : sizeLine = 16777216 := sizeLine_eq
      omega), fun s hs0 => ?_⟩
    have e0 : (List.replicate ((n : Int)).toNat [V.int 0]).flatten = (List.replicate n (0 : Int)).map V.int := by
      rw [show ((n : Int)).toNat = n by omega, List.map_replicate]
      induction n with
      | zero => rfl
      | succ n ih => 
        clear ih
        exact List.flatten_replicate_singleton
    rw [e0]
    refine ⟨_, _, rfl, ?_⟩
    refine ⟨(by show 0 ≤ sizeLine; decide), fun t ht0 => ?_⟩
    have hx1 : x ≠ l := fun z => by rw [z, upd_same] at hx0; cases hx0
    have hsx : s ≠ x := fun z => by rw [z, upd_same] at hs0; cases hs0
    have hs1 : (upd H l (.lst (rgV 0 (n : Int)))) s = none := by rw [upd_ne hsx] at hs0; exact hs0
    have hsl : s ≠ l := fun z => by rw [z, upd_same] at hs1; cases hs1
    have hs2 : H s = none := by rw [upd_ne hsl] at hs1; exact hs1
    have S0 : Same H (upd (upd (upd (upd H l (.lst (rgV 0 (n : Int)))) x (.lst [.int 0])) s (.lst ((List.replicate n (0 : Int)).map V.int))) t (.lst [])) := (((Same.new hl0).trans (Same.new hx0)).trans (Same.new hs0)).trans (Same.new ht0)
    have ht2 : H t = none := by
      cases e : H t with
      | none => rfl
      | some o => have := (((Same.new hl0).trans (Same.new hx0)).trans (Same.new (o := .lst ((List.replicate n (0 : Int)).map V.int)) hs0)) t o e; rw [ht0] at this; cases this
    have tl : t ≠ l := fun z => by
      have := (Same.new hs0 (o := .lst ((List.replicate n (0 : Int)).map V.int))) l _ ((Same.new hx0 (o := .lst [.int 0])) l _ upd_same)
      rw [z, this] at ht0
      cases ht0
    have ts' : t ≠ s := fun z => by rw [z, upd_same] at ht0; cases ht0
    have eL0 : (upd (upd (upd (upd H l (.lst (rgV 0 (n : Int)))) x (.lst [.int 0])) s (.lst ((List.replicate n (0 : Int)).map V.int))) t (.lst [])) l = some (.lst (rgV 0 (n : Int))) := by
      rw [upd_ne (Ne.symm tl), upd_ne (Ne.symm hsl), upd_ne (Ne.symm hx1)]; exact upd_same
    have eS0 : (upd (upd (upd (upd H l (.lst (rgV 0 (n : Int)))) x (.lst [.int 0])) s (.lst ((List.replicate n (0 : Int)).map V.int))) t (.lst [])) s = some (.lst ((List.replicate n (0 : Int)).map V.int)) := by
      rw [upd_ne (Ne.symm ts')]; exact upd_same
    have lo := hP.off hl0
    have so := hP.off hs2
    have to := hP.off ht2
    -- the things
    refine ⟨_, rfl, _, rfl, _, _, rfl, rfl, ((n : Int) - (h : Int)), rfl, by omega, by omega, ?_⟩
    refine for_range (lo := 0) (n := ((n : Int) - (h : Int)).toNat) (fun i σ H' => ∃ (v : Option V) (ts : List Int), σ = [some (.ref p), some (.int (n : Int)), some (.int (h : Int)), some (.bl kd), some (.ref l), some (.ref s), some (.ref t), v, none] ∧
        H' l = some (.lst (rgV 0 (n : Int))) ∧ H' s = some (.lst ((List.replicate n (0 : Int)).map V.int)) ∧ H' t = some (.lst (ts.map V.int)) ∧ ts.length = i ∧ (∀ x ∈ ts, 0 ≤ x ∧ x ≤ 1000) ∧ Kp H H' ∧ Pen H' p c (b + (2 * n - i)))
      ⟨none, [], rfl, eL0, eS0, upd_same, rfl, (fun x hx => by cases hx), .of_same S0, by rw [Nat.sub_zero]; exact hP.same S0⟩ ?_ ?_
    · rintro i σ H1 hi ⟨v, ts, rfl, eL, eS, eT, hT, bT, kp, P1⟩
      have hi' : i < n := by omega
      obtain ⟨kv1, hk1⟩ := P1.there
      have add : ∀ (z : Int) (H2 : Hp), 0 ≤ z → z ≤ 1000 → H2 l = some (.lst (rgV 0 (n : Int))) → H2 s = some (.lst ((List.replicate n (0 : Int)).map V.int)) → H2 t = some (.lst (ts.map V.int)) → Kp H H2 → Pen H2 p c (b + (2 * n - (i + 1))) →
          ∃ l' xs y, V.ref t = .ref l' ∧ [V.int z] = [y] ∧ H2 l' = some (.lst xs) ∧ xs.length < sizeLine ∧ ∃ (v : Option V) (ts : List Int), [some (.ref p), some (.int (n : Int)), some (.int (h : Int)), some (.bl kd), some (.ref l), some (.ref s), some (.ref t), some (.int (0 + (i : Int))), none] = [some (.ref p), some (.int (n : Int)), some (.int (h : Int)), some (.bl kd), some (.ref l), some (.ref s), some (.ref t), v, none] ∧
            (upd H2 l' (.lst (xs ++ [y]))) l = some (.lst (rgV 0 (n : Int))) ∧ (upd H2 l' (.lst (xs ++ [y]))) s = some (.lst ((List.replicate n (0 : Int)).map V.int)) ∧ (upd H2 l' (.lst (xs ++ [y]))) t = some (.lst (ts.map V.int)) ∧ ts.length = i + 1 ∧ (∀ x ∈ ts, 0 ≤ x ∧ x ≤ 1000) ∧ Kp H (upd H2 l' (.lst (xs ++ [y]))) ∧ Pen (upd H2 l' (.lst (xs ++ [y]))) p c (b + (2 * n - (i + 1))) := fun z H2 z0 z1 eL2 eS2 eT2 kp2 P2 =>
        ⟨t, _, _, rfl, rfl, eT2, by rw [List.length_map, hT]; exact Nat.lt_of_lt_of_le (by omega : i < 1000) (by decide), _, ts ++ [z], rfl, by rw [upd_ne (Ne.symm tl)]; exact eL2, by rw [upd_ne (Ne.symm ts')]; exact eS2, by rw [upd_same, List.map_append]; rfl, by rw [List.length_append, hT]; rfl, (fun x hx => by
          rcases List.mem_append.mp hx with hx | hx
          · exact bT x hx
          · rw [List.mem_singleton.mp hx]; exact ⟨z0, z1⟩), kp2.upd ht2, P2.upd to.1 to.2⟩
      refine ⟨_, rfl, .inl ⟨rfl, _, SqL.of eT⟩, ?_⟩
      refine ⟨_, rfl, kd, rfl, ?_⟩
      refine ifT (fun hkd => ?_) (fun hkd => ?_)
      · refine ⟨_, rfl, p, c, 2, b + (2 * n - (i + 1)), rfl, by rw [show b + (2 * n - (i + 1)) + 1 = b + (2 * n - i) by omega]; exact P1, by decide, by decide, fun z H2 z0 z1 P2 B2 => ?_⟩
        refine ⟨_, _, rfl, rfl, ?_⟩
        exact add (1 + z) H2 (by omega) (by omega) (B2.keep hk1 eL (by intro z; cases z)) (B2.keep hk1 eS (by intro z; cases z)) (B2.keep hk1 eT (by intro z; cases z)) (kp.trans (.of_but B2 hk1)) P2
      · refine ⟨_, rfl, _, _, rfl, rfl, ?_⟩
        exact add (0 + (i : Int) + 1) H1 (by omega) (by omega) eL eS eT kp (P1.less (by omega))
    · rintro σ H1 ⟨v, ts, rfl, eL, eS, eT, hT, bT, kp, P1⟩
      -- each thing has its place
      refine ⟨_, rfl, t, rfl, ⟨_, SqL.of eT⟩, for_list (K := K) (a := t) (xs := ts.map V.int) (fun i σ H' => ∃ (v8 : Option V) (L : List V) (st : List Int), σ = [some (.ref p), some (.int (n : Int)), some (.int (h : Int)), some (.bl kd), some (.ref l), some (.ref s), some (.ref t), v, v8] ∧
        H' l = some (.lst L) ∧ L.length = n - i ∧ (∀ v ∈ L, v ∈ rgV 0 (n : Int)) ∧ H' s = some (.lst (st.map V.int)) ∧ StandOk n st ∧ H' t = some (.lst (ts.map V.int)) ∧ Kp H H' ∧ Pen H' p c (b + (n - i)))
        ⟨none, rgV 0 (n : Int), List.replicate n 0, rfl, eL, by rw [hxl, Nat.sub_zero], (fun v hv => hv), eS, ⟨List.length_replicate, fun x hx => by rw [(List.mem_replicate.mp hx).2]; decide⟩, eT, kp, P1.less (by omega)⟩ (fun i σ H2 _ ⟨_, _, _, _, _, _, _, _, _, e, _⟩ => SqL.of e) ?_ ?_⟩
      · rintro i y σ H2 hi ⟨v8, L, st, rfl, eL, hL, mL, eS, ⟨sl, sb⟩, eT, kp, P2⟩
        obtain ⟨y', hy', rfl⟩ := ints_at hi
        have hty : y' ∈ ts := List.mem_of_getElem? hy'
        have hi' : i < ts.length := by
          rcases Nat.lt_or_ge i ts.length with h | h
          · exact h
          · rw [List.getElem?_eq_none h] at hy'; cases hy'
        have hin : i < n := by omega
        obtain ⟨kv1, hk1⟩ := P2.there
        refine ⟨_, rfl, _, rfl, _, rfl, .inl ⟨rfl, _, SqL.of eL⟩, _, rfl, _, rfl, l, L, rfl, .inl (SqL.of eL), p, c, _, b + (n - (i + 1)), rfl, by rw [show b + (n - (i + 1)) + 1 = b + (n - i) by omega]; exact P2, by omega, by omega, fun z H3 z0 z1 P3 B3 => ?_⟩
        obtain ⟨u, hu⟩ := get_of_lt (l := L) z0 z1
        obtain ⟨a, rfl, a0, a1⟩ := rgV_mem (mL u (List.mem_of_getElem? hu))
        refine ⟨l, L, z, z.toNat, _, rfl, rfl, B3.keep hk1 eL (by intro z; cases z), by omega, by omega, PySem.seqIndex_of z0 z1, hu, ?_⟩
        refine ⟨s, _, a, a.toNat, rfl, rfl, by rw [upd_ne hsl]; exact B3.keep hk1 eS (by intro z; cases z), by unfold ixN; rw [if_pos a0, List.length_map, sl, if_pos a1], ?_⟩
        rw [map_set]
        refine ⟨_, L.eraseIdx z.toNat, st.set a.toNat y', rfl, by rw [upd_ne (Ne.symm hsl)]; exact upd_same, by rw [List.length_eraseIdx_of_lt (by omega)]; omega, fun v hv => mL v (List.mem_of_mem_eraseIdx hv), upd_same, ⟨by rw [List.length_set]; exact sl, fun x hx => ?_⟩, ?_, ((kp.trans (.of_but B3 hk1)).upd hl0).upd hs2, (P3.upd lo.1 lo.2).upd so.1 so.2⟩
        · rcases List.mem_or_eq_of_mem_set hx with hx | hx
          · exact sb x hx
          · rw [hx]; exact bT y' hty
        · rw [upd_ne ts', upd_ne tl]; exact B3.keep hk1 eT (by intro z; cases z)
      · rintro σ H2 ⟨v8, L, st, rfl, eL, hL, mL, eS, so', eT, kp, P2⟩
        refine ⟨_, rfl, s, _, rfl, .inl ⟨SqL.of eS, fun q hq => ?_⟩⟩
        exact k q st _ so' upd_same (kp.trans (.new hq)) ((P2.same (Same.new hq)).less (by omega))
end
end Y
set_option Elab.async false
set_option linter.all false
set_option maxRecDepth 100000
set_option maxHeartbeats 4000000
namespace Y
open PySem L2
abbrev sWithout : Stmt := top 28
def spWithout (K : PySem.W.Frag) (hu : Prop) : Sp := fun vs H Q _ => ∃ (d g : Addr) (n : Nat) (kvs : PK) (ks : List (Int × Int)) (t : Int × Int), vs = [.ref d, .ref g] ∧ H d = some (.dT kvs) ∧ SqT K H g [.int t.1, .int t.2] ∧ PairsOk n kvs ks ∧ ks.length ≤ 60 ∧
  ∀ (d' : Addr) (kvs' : PK) (ks' : List (Int × Int)) (H' : Hp), PairsOk n kvs' ks' → ks'.length ≤ ks.length → H' d' = some (.dT kvs') → H d' = none → Same H H' → Q (.ref d') H'
theorem shaped_tie (t : Int × Int) : SeqAt.shaped (tieD t) = true := by
  have e1 : PyData.canLay0 (tieD t) = true := by simp only [tieD, PyData.canLay0, PyData.canLayAll0, Bool.and_self]
  have e2 : decide (PyData.depth (tieD t) ≤ 64) = true := by simp [tieD, PyData.depth, PyData.depthAll]
  unfold SeqAt.shaped
  rw [e1, e2]
  rfl
section
variable {P : Program} {w : World} {K : PySem.W.Frag} {mg : Str → Option Value} {base : Heap} {fDraw : Addr}
theorem scWithout : FnScope ["_law_pairs", "_law_gone", "_law_found", "_law_pair"] ["_law_pairs", "_law_gone"] (defScope sWithout) := ⟨rfl, rfl, rfl, by decide +kernel, rfl, by decide +kernel, by decide +kernel⟩
theorem ok_without {f : Addr} {fd : FuncData} (F : Fun K "_law_without" "_law_without" sWithout f fd) : FnOk P w K mg base CX0 1 f fd ["_law_pairs", "_law_gone"] (spWithout K True) := by
  refine F.ok scWithout (fun vs H Q E h => ?_) (fun cdv A outer s H vs Q E hr h => ?_)
  · obtain ⟨d, g, n, kvs, ks, t, rfl, _⟩ := h
    rfl
  · obtain ⟨d, g, n, kvs, ks, t, rfl, hd, hg, hP, h60, k⟩ := h
    have hu := hu_of hr
    have hu64 := hr.units
    refine ⟨_, pss_cons (ps_set (i := 2) scWithout.nd rfl (Or.inl rfl) pe_dnewT)
      (pss_cons (ps_lock (ps_for PassesOwn.never rfl (pi_keys (pv 0)) (pg_name (i := 3) scWithout.nd rfl (Or.inl rfl))
        (pss_one (ps_if (pt_cmpR (op_neD hu64) (pv 3) (pv 1) (nomark _)) (pss_one (ps_dput hu (pv 2) (pv 3) pe_bl rfl)) pss_nil))))
      (pss_one (ps_ret (pv 2)))), ?_⟩
    intro x hx
    have hdx : d ≠ x := ne_of_none hd hx
    refine ⟨d, .dT kvs, by rw [upd_ne hdx]; exact hd, trivial, fun od => ?_⟩
    refine ⟨_, rfl, d, od, rfl, .inr ⟨kvs, upd_same, ?_⟩⟩
    have S0 : ∀ b u, b ≠ d → H b = some u → (upd (upd H x (.dT [])) d (.frz od (.dT kvs))) b = some u := fun b u nb e => by rw [upd_ne nb, upd_ne (ne_of_none e hx)]; exact e
    refine for_it walk_keysT (fun i σ H' => ∃ (v : Option V) (kvs' : PK) (ks' : List (Int × Int)), σ = [some (.ref d), some (.ref g), some (.ref x), v] ∧ PairsOk n kvs' ks' ∧ ks'.length ≤ i ∧ H' x = some (.dT kvs') ∧ H' d = some (.frz od (.dT kvs)) ∧ ∀ b u, b ≠ d → H b = some u → H' b = some u)
      ⟨none, [], [], rfl, .nil n, Nat.le_refl 0, by rw [upd_ne (Ne.symm hdx)]; exact upd_same, upd_same, S0⟩ (fun i σ H' _ ⟨_, _, _, _, _, _, _, e, _⟩ => e) ?_ ?_
    · rintro i y σ H1 H1' hi ⟨v, kvs', ks', rfl, hP', hl', ex, ed, S1⟩ ⟨rfl, key, val, q, hk, rfl, eq⟩
      have hi' : i < ks.length := by rw [← hP.len]; exact hi
      -- the key is a tie
      have hkey : ∃ u, key = pk u ∧ TieOk n u := by
        have h1 : (kvs.map (·.1))[i]? = some key := by rw [List.getElem?_map, hk]; rfl
        rw [hP.1, List.getElem?_map] at h1
        cases e : ks[i]? with
        | none => rw [e] at h1; cases h1
        | some u => rw [e] at h1; exact ⟨u, (Option.some.inj h1).symm, hP.2.2 u (List.mem_of_getElem? e)⟩
      obtain ⟨u, rfl, hu'⟩ := hkey
      have eq' : H1' q = some (.tup [.int u.1, .int u.2]) := by rw [eq]; rfl
      have hg1 : SqT K H1' g [.int t.1, .int t.2] := by
        rcases hg with (h | ⟨o, h⟩) | h
        · exact .inl (.inl (S1 g _ (ne_of h hd (by intro z; cases z)) h))
        · exact .inl (.inr ⟨o, S1 g _ (ne_of h hd (by intro z; cases z)) h⟩)
        · exact .inr h
      refine ⟨_, rfl, _, rfl, tieD u, tieD t, dp_tie (SqT.of eq'), dp_tie hg1, shaped_tie _, shaped_tie _, _, rfl, ?_⟩
      refine ifT (fun _ => ?_) (fun _ => ?_)
      · obtain ⟨ks2, hP2, hl2, _, _⟩ := hP'.put hu' (.bl true)
        refine ⟨_, rfl, _, rfl, x, _, rfl, DPut.t ex eq (by rw [hP'.len]; exact Nat.lt_of_le_of_lt (by omega : ks'.length ≤ 60) (by decide)), ?_⟩
        refine ⟨_, _, ks2, rfl, hP2, by omega, upd_same, by rw [upd_ne hdx]; exact ed, fun b o nb e => by rw [upd_ne (ne_of_none e hx)]; exact S1 b o nb e⟩
      · exact ⟨_, kvs', ks', rfl, hP', by omega, ex, ed, S1⟩
    · rintro σ H1 ⟨v, kvs', ks', rfl, hP', hl', ex, ed, S1⟩
      refine ⟨ed, _, rfl, ?_⟩
      refine k x kvs' ks' _ hP' (by rw [← hP.len]; exact hl') (by rw [upd_ne (Ne.symm hdx)]; exact ex) hx fun b o e => ?_
      by_cases nb : b = d
      · rw [nb, hd] at e
        rw [nb, upd_same]
        exact e
      · rw [upd_ne nb]
        exact S1 b o nb e
end
end Y
set_option Elab.async false
set_option linter.all false
set_option maxRecDepth 100000
set_option maxHeartbeats 4000000
namespace Y
open PySem L2
abbrev sDYard : Stmt := top 27
abbrev RingAt (K : PySem.W.Frag) (H : Hp) (y : V) (r : List Int) : Prop := TupI K H y r
theorem ring_kp {K : PySem.W.Frag} {H H' : Hp} {y : V} {r : List Int} (h : RingAt K H y r) (s : Kp H H') : RingAt K H' y r := by
  obtain ⟨b, e, h⟩ := h
  exact ⟨b, e, s.seqT h⟩
theorem rings_kp {K : PySem.W.Frag} {H H' : Hp} {ys : List V} {rs : List (List Int)} (h : Paired (RingAt K H) ys rs) (s : Kp H H') : Paired (RingAt K H') ys rs := by
  induction h with
  | nil => exact .nil
  | cons a _ ih => exact .cons (ring_kp a s) ih
theorem rings_snoc {K : PySem.W.Frag} {H : Hp} {ys : List V} {rs : List (List Int)} {y : V} {r : List Int} (h : Paired (RingAt K H) ys rs) (a : RingAt K H y r) : Paired (RingAt K H) (ys ++ [y]) (rs ++ [r]) := by
  induction h with
  | nil => exact .cons a .nil
  | cons b _ ih => exact .cons b ih
theorem rings_map {R R' : V → List Int → Prop} {ys : List V} {rs : List (List Int)} (f : ∀ y r, R y r → R' y r) (h : Paired R ys rs) : Paired R' ys rs := by
  induction h with
  | nil => exact .nil
  | cons a _ ih => exact .cons (f _ _ a) ih
/-- at q: a yard's three parts -/
def YdAt (K : PySem.W.Frag) (H : Hp) (q : Addr) (n : Nat) (ts : List (Int × Int)) (rs : List (List Int)) : Prop := ∃ (a e : Addr) (ys zs : List V), SqT K H q [.int (n : Int), .ref a, .ref e] ∧ SqT K H a ys ∧ Paired (TieAt K H) ys ts ∧ SqT K H e zs ∧ Paired (RingAt K H) zs rs
theorem YdAt.kp {K : PySem.W.Frag} {H H' : Hp} {q : Addr} {n : Nat} {ts : List (Int × Int)} {rs : List (List Int)} (h : YdAt K H q n ts rs) (s : Kp H H') : YdAt K H' q n ts rs := by
  obtain ⟨a, e, ys, zs, h1, h2, h3, h4, h5⟩ := h
  exact ⟨a, e, ys, zs, s.seqT h1, s.seqT h2, ties_kp h3 s, s.seqT h4, rings_kp h5 s⟩
def YdOk (n : Nat) (ts : List (Int × Int)) (rs : List (List Int)) : Prop := 1 ≤ n ∧ n ≤ 12 ∧ TiesOk n ts ∧ ts.length ≤ 60 ∧ (∀ r ∈ rs, RingOk n r) ∧ rs.length ≤ 2
def spDYard (K : PySem.W.Frag) : Sp := fun vs H Q _ => ∃ (p c : Addr) (m b : Nat) (ways rings : Bool), vs = [.ref p, .int (m : Int), .bl ways, .bl rings] ∧ Pen H p c (b + 100) ∧ 2 ≤ m ∧ m ≤ 12 ∧
  ∀ q n ts rs H', YdAt K H' q n ts rs → YdOk n ts rs → n ≤ m → Kp H H' → Pen H' p c b → Q (.ref q) H'
structure TY (K : PySem.W.Frag) (mg : Str → Option Value) (fDraw fPick fWithout fRing : Addr) : Prop where
  g : TG K mg fDraw
  sorted : mg "sorted" = none
  gPick : mg "_law_pick" = some (.ref fPick)
  gWithout : mg "_law_without" = some (.ref fWithout)
  gRing : mg "_law_drawn_ring" = some (.ref fRing)
section
variable {P : Program} {w : World} {K : PySem.W.Frag} {mg : Str → Option Value} {base : Heap} {fDraw fPick fWithout fRing : Addr}
theorem scDYard : FnScope ["_law_pen_here", "_law_most", "_law_ways", "_law_rings", "_law_places", "_law_pairs", "_law_place", "_law_other", "_law_lap", "_law_one", "_law_gone", "_law_told"] ["_law_pen_here", "_law_most", "_law_ways", "_law_rings"] (defScope sDYard) := ⟨rfl, rfl, rfl, by decide +kernel, rfl, by decide +kernel, by decide +kernel⟩
/-- the pairs at d, after what was at H0 -/
structure PSt (H0 H : Hp) (p c d : Addr) (n b m : Nat) : Prop where
  ex : ∃ (kvs : PK) (ks : List (Int × Int)), PairsOk n kvs ks ∧ ks.length ≤ m ∧ ks ≠ [] ∧ H d = some (.dT kvs)
  kp : Kp H0 H
  pen : Pen H p c b
theorem ok_dyard {f : Addr} {fd fdD fdK fdW fdR : FuncData} (F : Fun K "_law_drawn_yard" "_law_drawn_yard" sDYard f fd) (T : TY K mg fDraw fPick fWithout fRing) (FD : Fun K "_law_draw" "_law_draw" sDraw fDraw fdD) (bD : Binds K fdD ["_law_pen_here", "_law_many"] [])
    (FK : Fun K "_law_pick" "_law_pick" sPick fPick fdK) (bK : Binds K fdK ["_law_pen_here", "_law_some"] []) (FW : Fun K "_law_without" "_law_without" sWithout fWithout fdW) (bW : Binds K fdW ["_law_pairs", "_law_gone"] [])
    (FR : Fun K "_law_drawn_ring" "_law_drawn_ring" sRing fRing fdR) (bR : Binds K fdR ["_law_pen_here", "_law_places"] []) :
    FnOk P w K mg base CX0 3 f fd ["_law_pen_here", "_law_most", "_law_ways", "_law_rings"] (spDYard K) := by
  have GD : FnOk P w K mg base CX0 1 fDraw fdD ["_law_pen_here", "_law_many"] spDraw := ok_draw FD T.g.p
  have GK : FnOk P w K mg base CX0 2 fPick fdK ["_law_pen_here", "_law_some"] (spPick K) := ok_pick FK T.g.p FD bD
  have GW : FnOk P w K mg base CX0 1 fWithout fdW ["_law_pairs", "_law_gone"] (spWithout K True) := ok_without FW
  have GR : FnOk P w K mg base CX0 2 fRing fdR ["_law_pen_here", "_law_places"] (spRing K) := ok_ring FR T.g FD bD
  refine F.ok scDYard (fun vs H Q E h => ?_) (fun cdv A outer s H vs Q E hr h => ?_)
  · obtain ⟨p, c, m, b, ways, rings, rfl, _⟩ := h
    rfl
  · obtain ⟨p, c, m, b, ways, rings, rfl, hP, m2, m12, k⟩ := h
    have hu := hu_of hr
    have hr1 : Room 1 _ := hr.mono (by decide)
    refine ⟨_, pss_cons (ps_set (i := 4) scDYard.nd rfl (Or.inl rfl) (pe_op op_add pe_int (pe_call GD hr1 (by rfl) T.g.p.gDraw FD.kp bD .nil pass0 (pa_cons (pv 0) (pa_cons (pe_op op_sub (pv 1) pe_int) pa_nil)))))
      (pss_cons (ps_set (i := 5) scDYard.nd rfl (Or.inl rfl) pe_dnewT)
      (pss_cons (ps_for PassesOwn.never rfl (pi_range2 (by rfl) T.g.range (pa_cons pe_int (pa_cons (pv 4) pa_nil))) (pg_name (i := 6) scDYard.nd rfl (Or.inl rfl))
        (pss_cons (ps_set (i := 7) scDYard.nd rfl (Or.inl rfl) (pe_call GD hr1 (by rfl) T.g.p.gDraw FD.kp bD .nil pass0 (pa_cons (pv 0) (pa_cons (pv 6) pa_nil))))
        (pss_cons (ps_dput hu (pv 5) (pe_tup (pa_cons (pv 7) (pa_cons (pv 6) pa_nil))) pe_bl rfl)
        (pss_one (ps_dput hu (pv 5) (pe_tup (pa_cons (pv 6) (pa_cons (pv 7) pa_nil))) pe_bl rfl)))))
      (pss_cons (ps_for PassesOwn.never rfl (pi_range1 (by rfl) T.g.range (pa_cons (pe_call GD hr1 (by rfl) T.g.p.gDraw FD.kp bD .nil pass0 (pa_cons (pv 0) (pa_cons pe_int pa_nil))) pa_nil)) (pg_name (i := 8) scDYard.nd rfl (Or.inl rfl))
        (pss_cons (ps_par (i := 9) (j := 7) rfl scDYard.nd rfl rfl (by decide) rfl rfl (pa_cons (pe_call GD hr1 (by rfl) T.g.p.gDraw FD.kp bD .nil pass0 (pa_cons (pv 0) (pa_cons (pv 4) pa_nil))) (pa_cons (pe_call GD hr1 (by rfl) T.g.p.gDraw FD.kp bD .nil pass0 (pa_cons (pv 0) (pa_cons (pv 4) pa_nil))) pa_nil)) (by rfl))
        (pss_one (ps_if (pt_cmpR op_ne (pv 9) (pv 7) (nomark _))
          (pss_cons (ps_dput hu (pv 5) (pe_tup (pa_cons (pv 9) (pa_cons (pv 7) pa_nil))) pe_bl rfl)
          (pss_one (ps_if (PW.pt (pw_or (pt_not (pt_val (pv 2))) (pw_or1 (pt_cmpR op_eq (pe_call GD hr1 (by rfl) T.g.p.gDraw FD.kp bD .nil pass0 (pa_cons (pv 0) (pa_cons pe_int pa_nil))) pe_int (nomark _)))))
            (pss_one (ps_dput hu (pv 5) (pe_tup (pa_cons (pv 7) (pa_cons (pv 9) pa_nil))) pe_bl rfl)) pss_nil)))
          pss_nil))))
      (C8.pss_cut (ps_if (PW.pt (pw_and (pt_val (pv 2)) (pw_and1 (pt_cmpR op_eq (pe_call GD hr1 (by rfl) T.g.p.gDraw FD.kp bD .nil pass0 (pa_cons (pv 0) (pa_cons pe_int pa_nil))) pe_int (nomark _)))))
        (pss_cons (ps_set (i := 10) scDYard.nd rfl (Or.inl rfl) (pe_call GK hr (by rfl) T.gPick FK.kp bK .nil pass0 (pa_cons (pv 0) (pa_cons (pe_callB (cr_sortedDT rfl) (by rfl) T.sorted (by decide +kernel) (pa_cons (pv 5) pa_nil)) pa_nil))))
        (pss_one (ps_set (i := 5) scDYard.nd rfl (Or.inl rfl) (pe_call GW hr1 (by rfl) T.gWithout FW.kp bW .nil pass0 (pa_cons (pv 5) (pa_cons (pv 10) pa_nil))))))
        pss_nil)
      (pss_cons (ps_set (i := 11) scDYard.nd rfl (Or.inl rfl) (pe_lst pa_nil))
      (C8.pss_cut (ps_if (PW.pt (pw_and (pt_val (pv 3)) (pw_and1 (pt_cmpR op_ge (pv 4) pe_int (nomark _)))))
        (pss_one (ps_for PassesOwn.never rfl (pi_range1 (by rfl) T.g.range (pa_cons (pe_call GD hr1 (by rfl) T.g.p.gDraw FD.kp bD .nil pass0 (pa_cons (pv 0) (pa_cons pe_int pa_nil))) pa_nil)) (pg_name (i := 8) scDYard.nd rfl (Or.inl rfl))
          (pss_one (ps_expr (pe_bm PySem.F.plainAttrs_list PySem.F.slot_list_append PySem.F.type_list_append mt_append (pv 11) (pa_cons (pe_call GR hr (by rfl) T.gRing FR.kp bR .nil pass0 (pa_cons (pv 0) (pa_cons (pv 4) pa_nil))) pa_nil))))))
        pss_nil)
      (pss_one (ps_ret (pe_tup (pa_cons (pv 4) (pa_cons (pe_callTy call_tuple_of (by rfl) T.g.tuple (by decide +kernel) (pa_cons (pe_callB (cr_sortedDT rfl) (by rfl) T.sorted (by decide +kernel) (pa_cons (pv 5) pa_nil)) pa_nil)) (pa_cons (pe_callTy call_tuple_of (by rfl) T.g.tuple (by decide +kernel) (pa_cons (pv 11) pa_nil)) pa_nil)))))))))))), ?_⟩
    obtain ⟨kv0, hk0⟩ := hP.there
    refine ⟨_, rfl, _, rfl, _, _, rfl, rfl, p, c, _, b + 99, rfl, hP, by omega, by omega, fun z H1 z0 z1 P1 B1 => ?_⟩
    refine ⟨_, _, rfl, rfl, ?_⟩
    obtain ⟨n, hn⟩ : ∃ n : Nat, (2 : Int) + z = (n : Int) := ⟨(2 + z).toNat, by omega⟩
    show gName 4 (V.int ((2 : Int) + z)) _ _ _
    rw [hn]
    have n2 : 2 ≤ n := by omega
    have nm : n ≤ m := by omega
    have kp1 : Kp H H1 := .of_but B1 hk0
    intro d hd
    have dof := P1.off hd
    have put : ∀ (H2 : Hp) (kvs : PK) (ks : List (Int × Int)) (t : Int × Int) (bb mm : Nat), PairsOk n kvs ks → ks.length ≤ mm → mm ≤ 60 → H2 d = some (.dT kvs) → Kp H1 H2 → Pen H2 p c bb → TieOk n t → ∀ t1, H2 t1 = none →
        ∃ kvs', DPut (upd H2 t1 (.tup [.int t.1, .int t.2])) d (.ref t1) (.bl true) (upd (upd H2 t1 (.tup [.int t.1, .int t.2])) d (.dT kvs')) ∧ ∃ ks', PairsOk n kvs' ks' ∧ ks'.length ≤ mm + 1 ∧ ks' ≠ [] ∧ (upd (upd H2 t1 (.tup [.int t.1, .int t.2])) d (.dT kvs')) d = some (.dT kvs') ∧
          Kp H1 (upd (upd H2 t1 (.tup [.int t.1, .int t.2])) d (.dT kvs')) ∧ Pen (upd (upd H2 t1 (.tup [.int t.1, .int t.2])) d (.dT kvs')) p c bb := fun H2 kvs ks t bb mm hp hl hm e kp pn ht t1 n1 => by
      obtain ⟨ks', hp', hl', _, hin⟩ := hp.put ht (.bl true)
      refine ⟨_, DPut.t (k := pk t) ((Same.new n1) _ _ e) upd_same (by rw [hp.len]; exact Nat.lt_of_le_of_lt (by omega : ks.length ≤ 60) (by decide)), ks', hp', by omega, (fun z => by rw [z] at hin; cases hin), upd_same, (kp.trans (.new n1)).upd hd, (pn.same (Same.new n1)).upd dof.1 dof.2⟩
    -- a tree of pairs
    refine ⟨_, rfl, 1, (n : Int), rfl, ⟨by decide, by decide, by omega, by omega⟩, ?_⟩
    refine for_range (lo := 1) (n := ((n : Int) - 1).toNat) (fun i σ H' => ∃ (v6 v7 : Option V) (kvs : PK) (ks : List (Int × Int)), σ = [some (.ref p), some (.int (m : Int)), some (.bl ways), some (.bl rings), some (.int (n : Int)), some (.ref d), v6, v7, none, none, none, none] ∧
        PairsOk n kvs ks ∧ ks.length ≤ 2 * i ∧ (0 < i → ks ≠ []) ∧ H' d = some (.dT kvs) ∧ Kp H1 H' ∧ Pen H' p c (b + 99 - i))
      ⟨none, none, [], [], rfl, .nil n, Nat.le_refl 0, (fun h => absurd h (by decide)), upd_same, .new hd, P1.same (Same.new hd)⟩ ?_ ?_
    · rintro i σ H2 hi ⟨v6, v7, kvs, ks, rfl, hp, hl, _, e, kp, pn⟩
      obtain ⟨kv2, hk2⟩ := pn.there
      refine ⟨_, rfl, _, rfl, p, c, _, b + 99 - (i + 1), rfl, by rw [show b + 99 - (i + 1) + 1 = b + 99 - i by omega]; exact pn, by omega, by omega, fun o H3 o0 o1 p3 B3 => ?_⟩
      refine ⟨_, rfl, _, rfl, _, rfl, (by show 2 ≤ sizeLine; decide), fun t1 n1 => ?_⟩
      obtain ⟨kvs1, dp1, ks1, hp1, hl1, _, e1, kq1, pn1⟩ := put H3 kvs ks (o, 1 + (i : Int)) _ (2 * i) hp hl (by omega) (B3.keep hk2 e (by intro z; cases z)) (kp.trans (.of_but B3 hk2)) p3 ⟨o0, by show o < _; omega, by show 0 ≤ 1 + (i : Int); omega, by show 1 + (i : Int) < _; omega, by show o ≠ 1 + (i : Int); omega⟩ t1 n1
      refine ⟨d, _, rfl, dp1, ?_⟩
      refine ⟨_, rfl, _, rfl, _, rfl, (by show 2 ≤ sizeLine; decide), fun t2 n2' => ?_⟩
      obtain ⟨kvs2, dp2, ks2, hp2, hl2, ne2, e2, kq2, pn2⟩ := put _ kvs1 ks1 (1 + (i : Int), o) _ (2 * i + 1) hp1 hl1 (by omega) e1 kq1 pn1 ⟨by show 0 ≤ 1 + (i : Int); omega, by show 1 + (i : Int) < _; omega, o0, by show o < _; omega, by show 1 + (i : Int) ≠ o; omega⟩ t2 n2'
      refine ⟨d, _, rfl, dp2, ?_⟩
      exact ⟨_, _, kvs2, ks2, rfl, hp2, by omega, fun _ => ne2, e2, kq2, pn2⟩
    · rintro σ H2 ⟨v6, v7, kvs, ks, rfl, hp, hl, hne, e, kp, pn⟩
      obtain ⟨kv2, hk2⟩ := pn.there
      -- a few more
      refine ⟨_, rfl, p, c, 3, b + 80, rfl, pn.less (by omega), by decide, by decide, fun laps H3 l0 l1 p3 B3 => ?_⟩
      refine ⟨laps, rfl, by omega, by omega, ?_⟩
      refine for_range (lo := 0) (n := laps.toNat) (fun i σ H' => ∃ (v7 v8 v9 : Option V) (kvs : PK) (ks : List (Int × Int)), σ = [some (.ref p), some (.int (m : Int)), some (.bl ways), some (.bl rings), some (.int (n : Int)), some (.ref d), v6, v7, v8, v9, none, none] ∧
          PairsOk n kvs ks ∧ ks.length ≤ 24 + 2 * i ∧ ks ≠ [] ∧ H' d = some (.dT kvs) ∧ Kp H1 H' ∧ Pen H' p c (b + 80 - 3 * i))
        ⟨_, _, _, kvs, ks, rfl, hp, by omega, hne (by omega), B3.keep hk2 e (by intro z; cases z), kp.trans (.of_but B3 hk2), p3⟩ ?_ ?_
      · rintro i σ H4 hi ⟨v7, v8, v9, kvs, ks, rfl, hp, hl, hne, e, kp, pn⟩
        obtain ⟨kv4, hk4⟩ := pn.there
        refine ⟨_, rfl, _, rfl, p, c, _, b + 79 - 3 * i, rfl, by rw [show b + 79 - 3 * i + 1 = b + 80 - 3 * i by omega]; exact pn, by omega, by omega, fun x H5 x0 x1 p5 B5 => ?_⟩
        obtain ⟨kv5, hk5⟩ := p5.there
        refine ⟨_, rfl, _, rfl, p, c, _, b + 78 - 3 * i, rfl, by rw [show b + 78 - 3 * i + 1 = b + 79 - 3 * i by omega]; exact p5, by omega, by omega, fun y H6 y0 y1 p6 B6 => ?_⟩
        have e6 := B6.keep hk5 (B5.keep hk4 e (by intro z; cases z)) (by intro z; cases z)
        have kp6 := (kp.trans (.of_but B5 hk4)).trans (.of_but B6 hk5)
        refine ⟨_, _, rfl, ?_⟩
        refine ⟨_, rfl, _, rfl, rfl, _, rfl, ?_⟩
        refine ifT (fun hxy => ?_) (fun _ => ?_)
        · have hxy' : x ≠ y := by intro z; rw [z] at hxy; simp at hxy
          refine ⟨_, rfl, _, rfl, _, rfl, (by show 2 ≤ sizeLine; decide), fun t1 n1 => ?_⟩
          obtain ⟨kvs1, dp1, ks1, hp1, hl1, ne1, e1, kq1, pn1⟩ := put H6 kvs ks (x, y) _ (24 + 2 * i) hp hl (by omega) e6 kp6 p6 ⟨x0, x1, y0, y1, hxy'⟩ t1 n1
          refine ⟨d, _, rfl, dp1, ?_⟩
          refine ⟨_, rfl, ways, rfl, ?_⟩
          have both : ∀ (H7 : Hp) (bb : Nat), H7 d = some (.dT kvs1) → Kp H1 H7 → Pen H7 p c (b + 80 - 3 * (i + 1)) → ∀ t2, H7 t2 = none → _ := fun H7 bb e7 kp7 p7 t2 n2' => put H7 kvs1 ks1 (y, x) (b + 80 - 3 * (i + 1)) (24 + 2 * i + 1) hp1 hl1 (by omega) e7 kp7 p7 ⟨y0, y1, x0, x1, Ne.symm hxy'⟩ t2 n2'
          refine ifT (fun _ => ?_) (fun _ => ?_)
          · refine ⟨_, rfl, _, rfl, _, rfl, (by show 2 ≤ sizeLine; decide), fun t2 n2' => ?_⟩
            obtain ⟨kvs2, dp2, ks2, hp2, hl2, ne2, e2, kq2, pn2⟩ := both _ 0 e1 kq1 (pn1.less (by omega)) t2 n2'
            refine ⟨d, _, rfl, dp2, ?_⟩
            exact ⟨_, _, _, kvs2, ks2, rfl, hp2, by omega, ne2, e2, kq2, pn2⟩
          · obtain ⟨kv7, hk7⟩ := pn1.there
            refine ⟨_, rfl, p, c, 2, b + 77 - 3 * i, rfl, by rw [show b + 77 - 3 * i + 1 = b + 78 - 3 * i by omega]; exact pn1, by decide, by decide, fun u H8 u0 u1 p8 B8 => ?_⟩
            have e8 := B8.keep hk7 e1 (by intro z; cases z)
            have kp8 := kq1.trans (.of_but B8 hk7)
            refine ⟨rfl, _, rfl, ?_⟩
            refine ifT (fun _ => ?_) (fun _ => ?_)
            · refine ⟨_, rfl, _, rfl, _, rfl, (by show 2 ≤ sizeLine; decide), fun t2 n2' => ?_⟩
              obtain ⟨kvs2, dp2, ks2, hp2, hl2, ne2, e2, kq2, pn2⟩ := both H8 0 e8 kp8 (p8.less (by omega)) t2 n2'
              refine ⟨d, _, rfl, dp2, ?_⟩
              exact ⟨_, _, _, kvs2, ks2, rfl, hp2, by omega, ne2, e2, kq2, pn2⟩
            · exact ⟨_, _, _, kvs1, ks1, rfl, hp1, by omega, ne1, e8, kp8, p8.less (by omega)⟩
        · exact ⟨_, _, _, kvs, ks, rfl, hp, by omega, hne, e6, kp6, p6.less (by omega)⟩
      · rintro σ H4 ⟨v7, v8, v9, kvs, ks, rfl, hp, hl, hne, e, kp, pn⟩
        obtain ⟨kv4, hk4⟩ := pn.there
        have keysB : ∀ (kvs : PK) (ks : List (Int × Int)), PairsOk n kvs ks → ∀ kv ∈ kvs, ∃ ns : List Int, kv.1 = ns.map Sum.inl ∧ ns.length = 2 ∧ TS.Bd 64 ns := fun kvs ks hp kv hkv => by
          have h1 : kv.1 ∈ kvs.map (·.1) := List.mem_map.mpr ⟨kv, hkv, rfl⟩
          rw [hp.1] at h1
          obtain ⟨t, ht, e⟩ := List.mem_map.mp h1
          exact ⟨[t.1, t.2], e.symm, rfl, bd_tie (hp.2.2 t ht) (by omega)⟩
        -- one may go
        refine ⟨fun σ' H' => ∃ (d' : Addr) (v7 v8 v9 v10 : Option V) (kvs : PK) (ks : List (Int × Int)), σ' = [some (.ref p), some (.int (m : Int)), some (.bl ways), some (.bl rings), some (.int (n : Int)), some (.ref d'), v6, v7, v8, v9, v10, none] ∧
          PairsOk n kvs ks ∧ ks.length ≤ 40 ∧ H' d' = some (.dT kvs) ∧ Kp H1 H' ∧ Pen H' p c (b + 60), ?_, ?_⟩
        · refine ⟨_, rfl, ways, rfl, ?_⟩
          refine ifT (fun _ => ?_) (fun _ => ?_)
          · refine ⟨_, rfl, p, c, 3, b + 61, rfl, pn.less (by omega), by decide, by decide, fun u H5 u0 u1 p5 B5 => ?_⟩
            have e5 := B5.keep hk4 e (by intro z; cases z)
            have kp5 := kp.trans (.of_but B5 hk4)
            refine ⟨rfl, _, rfl, ?_⟩
            refine ifT (fun _ => ?_) (fun _ => ?_)
            · refine ⟨_, rfl, _, rfl, d, kvs, 2, 64, rfl, .inl e5, by rw [hp.len]; omega, by decide, keysB kvs ks hp, fun bs ys q r pm pw nq => ?_⟩
              obtain ⟨ts, pt, ⟨tn, tok, _⟩, pat⟩ := sorted_ties (K := K) (n := n) (keysP (n := n) r hp.1) hp.2.1 hp.2.2 pm pw
              have tl := ties_len pat
              refine ⟨p, c, q, ys, b + 60, rfl, p5.same (Same.new nq), .inl (SqL.of upd_same), ?_, ?_, fun y i H6 hy p6 B6 => ?_⟩
              · intro z
                rw [z] at tl
                have := pt.length_eq
                exact hne (List.eq_nil_of_length_eq_zero (by rw [← this, ← tl]; rfl))
              · rw [tl, pt.length_eq]; omega
              obtain ⟨t, ht, g, rfl, hg⟩ := ties_get pat hy
              have kq : Kp H5 (upd H5 q (.lst ys)) := .new nq
              obtain ⟨kv5, hk5⟩ := (p5.same (Same.new (o := .lst ys) nq)).there
              have kq6 : Kp H5 H6 := kq.trans (.of_but B6 hk5)
              have e6 : H6 d = some (.dT kvs) := kq6 _ _ e5 (by intro _ z; cases z)
              refine ⟨_, rfl, _, rfl, d, g, n, kvs, ks, t, rfl, e6, kq6.seqT hg, hp, by omega, fun d' kvs' ks' H7 hp' hl' e7 _ s7 => ?_⟩
              exact ⟨d', v7, v8, v9, _, kvs', ks', rfl, hp', by omega, e7, (kp5.trans kq6).trans (.of_same s7), p6.same s7⟩
            · exact ⟨d, v7, v8, v9, none, kvs, ks, rfl, hp, by omega, e5, kp5, p5.less (by omega)⟩
          · exact ⟨d, v7, v8, v9, none, kvs, ks, rfl, hp, by omega, e, kp, pn.less (by omega)⟩
        · rintro σ' Hc ⟨d', v7, v8, v9, v10, kvs, ks, rfl, hp, hl, e, kp, pn⟩
          refine ⟨(by show 0 ≤ sizeLine; decide), fun l nl => ?_⟩
          have lo := pn.off nl
          have ec : (upd Hc l (.lst [])) d' = some (.dT kvs) := Same.new nl _ _ e
          have pnl := pn.same (Same.new (o := .lst []) nl)
          obtain ⟨kvc, hkc⟩ := pnl.there
          refine ⟨fun σ' H' => ∃ (v8 : Option V) (zs : List V) (rs : List (List Int)), σ' = [some (.ref p), some (.int (m : Int)), some (.bl ways), some (.bl rings), some (.int (n : Int)), some (.ref d'), v6, v7, v8, v9, v10, some (.ref l)] ∧
            H' l = some (.lst zs) ∧ Paired (RingAt K H') zs rs ∧ rs.length ≤ 2 ∧ (∀ r ∈ rs, RingOk n r) ∧ Kp Hc H' ∧ Pen H' p c (b + 20), ?_, ?_⟩
          · refine ⟨_, rfl, rings, rfl, ?_⟩
            refine ifT (fun _ => ?_) (fun _ => ?_)
            · refine ⟨_, rfl, _, _, rfl, rfl, _, rfl, ?_⟩
              refine ifT (fun h3 => ?_) (fun _ => ?_)
              · have n3 : (3 : Int) ≤ (n : Int) := of_decide_eq_true h3
                refine ⟨_, rfl, p, c, 3, b + 59, rfl, pnl.less (by omega), by decide, by decide, fun u H5 u0 u1 p5 B5 => ?_⟩
                refine ⟨u, rfl, by omega, by omega, ?_⟩
                refine for_range (lo := 0) (n := u.toNat) (fun i σ H' => ∃ (v8 : Option V) (zs : List V) (rs : List (List Int)), σ = [some (.ref p), some (.int (m : Int)), some (.bl ways), some (.bl rings), some (.int (n : Int)), some (.ref d'), v6, v7, v8, v9, v10, some (.ref l)] ∧
                  H' l = some (.lst zs) ∧ Paired (RingAt K H') zs rs ∧ rs.length = i ∧ (∀ r ∈ rs, RingOk n r) ∧ Kp Hc H' ∧ Pen H' p c (b + 59 - 13 * i))
                  ⟨_, [], [], rfl, B5.keep hkc upd_same (by intro z; cases z), .nil, rfl, (fun r hr => by cases hr), (Kp.new nl).trans (.of_but B5 hkc), p5⟩ ?_ ?_
                · rintro i σ H6 hi ⟨v8, zs, rs, rfl, el, pr, hlen, rok, kp6, p6⟩
                  refine ⟨_, rfl, .inl ⟨rfl, _, SqL.of el⟩, _, rfl, _, rfl, p, c, n, b + 59 - 13 * (i + 1), rfl, p6.less (by omega), by omega, by omega, fun q r H7 rk eq kq p7 => ?_⟩
                  have el7 := kq.lst el
                  refine ⟨l, zs, _, rfl, rfl, el7, by rw [Paired.length pr, hlen]; exact Nat.lt_of_lt_of_le (by omega : i < 1000) (by decide), ?_⟩
                  have K7 : Kp Hc (upd H7 l (.lst (zs ++ [V.ref q]))) := (kp6.trans kq).upd nl
                  have same7 : ∀ {y : V} {r : List Int}, RingAt K H7 y r → RingAt K (upd H7 l (.lst (zs ++ [V.ref q]))) y r := fun h => by
                    obtain ⟨b', e', h'⟩ := h
                    refine ⟨b', e', ?_⟩
                    rcases h' with (h' | ⟨o, h'⟩) | h'
                    · exact .inl (.inl (by rw [upd_ne (ne_of h' el7 (by intro z; cases z))]; exact h'))
                    · exact .inl (.inr ⟨o, by rw [upd_ne (ne_of h' el7 (by intro z; cases z))]; exact h'⟩)
                    · exact .inr h'
                  have pr7 : Paired (RingAt K (upd H7 l (.lst (zs ++ [V.ref q])))) (zs ++ [V.ref q]) (rs ++ [r]) := by
                    refine rings_snoc ?_ (same7 ⟨q, rfl, SqT.of eq⟩)
                    have := rings_kp pr kq
                    clear pr el el7 hlen rok
                    revert same7
                    intro same7
                    exact rings_map (fun y r h => same7 h) this
                  exact ⟨_, _, rs ++ [r], rfl, upd_same, pr7, by rw [List.length_append, hlen]; rfl, fun r' hr' => by
                    rcases List.mem_append.mp hr' with h | h
                    · exact rok r' h
                    · rw [List.mem_singleton.mp h]; exact rk, K7, p7.upd lo.1 lo.2⟩
                · rintro σ H6 ⟨v8, zs, rs, rfl, el, pr, hlen, rok, kp6, p6⟩
                  exact ⟨v8, zs, rs, rfl, el, pr, by omega, rok, kp6, p6.less (by omega)⟩
              · exact ⟨_, [], [], rfl, upd_same, .nil, by decide, (fun r hr => by cases hr), .new nl, pnl.less (by omega)⟩
            · exact ⟨_, [], [], rfl, upd_same, .nil, by decide, (fun r hr => by cases hr), .new nl, pnl.less (by omega)⟩
          · rintro σ' H5 ⟨v8, zs, rs, rfl, el, pr, hrs, rok, kp5, p5⟩
            have e5 : H5 d' = some (.dT kvs) := kp5 _ _ e (by intro _ z; cases z)
            refine ⟨_, rfl, _, rfl, d', kvs, 2, 64, rfl, .inl e5, by rw [hp.len]; omega, by decide, keysB kvs ks hp, fun bs ys q r pm pw nq => ?_⟩
            obtain ⟨ts, pt, tok, pat⟩ := sorted_ties (K := K) (n := n) (keysP (n := n) r hp.1) hp.2.1 hp.2.2 pm pw
            refine ⟨q, ys, rfl, .inl ⟨SqL.of upd_same, fun a na => ?_⟩⟩
            refine ⟨_, rfl, l, zs, rfl, .inl ⟨SqL.of (Same.new na _ _ (Same.new nq _ _ el)), fun e' ne' => ?_⟩⟩
            refine ⟨(by show 3 ≤ sizeLine; decide), fun y ny => ?_⟩
            have S : Same H5 (upd (upd (upd H5 q (.lst ys)) a (.tup ys)) e' (.tup zs)) := ((Same.new nq).trans (Same.new na)).trans (Same.new ne')
            have S' : Same H5 (upd (upd (upd (upd H5 q (.lst ys)) a (.tup ys)) e' (.tup zs)) y (.tup [.int (n : Int), .ref a, .ref e'])) := S.trans (Same.new ny)
            refine k y n ts rs _ ⟨a, e', ys, zs, SqT.of upd_same, SqT.of (Same.new ny _ _ (Same.new ne' _ _ upd_same)), ties_kp pat (.of_same S'), SqT.of (Same.new ny _ _ upd_same), rings_kp pr (.of_same S')⟩ ⟨by omega, by omega, tok, by rw [pt.length_eq]; omega, rok, hrs⟩ nm (((kp1.trans kp).trans kp5).trans (.of_same S')) ((p5.same S').less (by omega))
end
end Y
set_option Elab.async false
set_option linter.all false
set_option maxRecDepth 100000
set_option maxHeartbeats 4000000
namespace Y
open PySem L2
abbrev sSYard : Stmt := top 36
def spSYard (K : PySem.W.Frag) : Sp := fun vs H Q _ => ∃ (p c : Addr) (m b : Nat), vs = [.ref p, .int (m : Int)] ∧ Pen H p c (b + 103) ∧ 2 ≤ m ∧ m ≤ 12 ∧
  ∀ q n ts rs H', YdAt K H' q n ts rs → YdOk n ts rs → n ≤ m → Kp H H' → Pen H' p c b → Q (.ref q) H'
section
variable {P : Program} {w : World} {K : PySem.W.Frag} {mg : Str → Option Value} {base : Heap} {fDraw fDYard : Addr}
theorem scSYard : FnScope ["_law_pen_here", "_law_most"] ["_law_pen_here", "_law_most"] (defScope sSYard) := ⟨rfl, rfl, rfl, by decide +kernel, rfl, by decide +kernel, by decide +kernel⟩
theorem ok_syard {f : Addr} {fd fdD fdY : FuncData} (F : Fun K "_law_some_yard" "_law_some_yard" sSYard f fd) (T : TG K mg fDraw) (gY : mg "_law_drawn_yard" = some (.ref fDYard)) (FD : Fun K "_law_draw" "_law_draw" sDraw fDraw fdD) (bD : Binds K fdD ["_law_pen_here", "_law_many"] [])
    (GY : FnOk P w K mg base CX0 3 fDYard fdY ["_law_pen_here", "_law_most", "_law_ways", "_law_rings"] (spDYard K)) (FY : Fun K "_law_drawn_yard" "_law_drawn_yard" sDYard fDYard fdY) (bY : Binds K fdY ["_law_pen_here", "_law_most", "_law_ways", "_law_rings"] []) :
    FnOk P w K mg base CX0 4 f fd ["_law_pen_here", "_law_most"] (spSYard K) := by
  have GD : FnOk P w K mg base CX0 1 fDraw fdD ["_law_pen_here", "_law_many"] spDraw := ok_draw FD T.p
  refine F.ok scSYard (fun vs H Q E h => ?_) (fun cdv A outer s H vs Q E hr h => ?_)
  · obtain ⟨p, c, m, b, rfl, _⟩ := h
    rfl
  · obtain ⟨p, c, m, b, rfl, hP, m2, m12, k⟩ := h
    have hr1 : Room 1 _ := hr.mono (by decide)
    refine ⟨_, pss_cons (ps_if (pt_cmpR op_eq (pe_call GD hr1 (by rfl) T.p.gDraw FD.kp bD .nil pass0 (pa_cons (pv 0) (pa_cons pe_int pa_nil))) pe_int (nomark _)) (pss_one (ps_ret (pe_tup (pa_cons pe_int (pa_cons (pe_tup pa_nil) (pa_cons (pe_tup pa_nil) pa_nil)))))) pss_nil)
      (pss_one (ps_ret (pe_call GY hr (by rfl) gY FY.kp bY .nil pass0 (pa_cons (pv 0) (pa_cons (pv 1) (pa_cons (pe_cmpR op_eq (pe_call GD hr1 (by rfl) T.p.gDraw FD.kp bD .nil pass0 (pa_cons (pv 0) (pa_cons pe_int pa_nil))) pe_int (nomark _))
        (pa_cons (pe_cmpR op_eq (pe_call GD hr1 (by rfl) T.p.gDraw FD.kp bD .nil pass0 (pa_cons (pv 0) (pa_cons pe_int pa_nil))) pe_int (nomark _)) pa_nil))))))), ?_⟩
    obtain ⟨kv0, hk0⟩ := hP.there
    refine ⟨_, rfl, p, c, 12, b + 102, rfl, hP, by decide, by decide, fun z H1 z0 z1 P1 B1 => ?_⟩
    obtain ⟨kv1, hk1⟩ := P1.there
    refine ⟨rfl, _, rfl, ?_⟩
    refine ifT (fun _ => ?_) (fun _ => ?_)
    · refine ⟨(by show 0 ≤ sizeLine; decide), fun t1 n1 => ⟨(by show 0 ≤ sizeLine; decide), fun t2 n2 => ⟨(by show 3 ≤ sizeLine; decide), fun t3 n3 => ?_⟩⟩⟩
      have S : Same H1 (upd (upd (upd H1 t1 (.tup [])) t2 (.tup [])) t3 (.tup [.int ((1 : Nat) : Int), .ref t1, .ref t2])) := ((Same.new n1).trans (Same.new n2)).trans (Same.new n3)
      refine k t3 1 [] [] _ ⟨t1, t2, [], [], SqT.of upd_same, SqT.of (Same.new n3 _ _ (Same.new n2 _ _ upd_same)), .nil, SqT.of (Same.new n3 _ _ upd_same), .nil⟩ ⟨by decide, by decide, ⟨List.nodup_nil, (fun t h => by cases h), List.Pairwise.nil⟩, by decide, (fun r h => by cases h), by decide⟩ (by omega) ((Kp.of_but B1 hk0).trans (.of_same S)) ((P1.same S).less (by omega))
    · refine ⟨_, rfl, _, rfl, _, rfl, p, c, 2, b + 101, rfl, P1, by decide, by decide, fun u H2 u0 u1 P2 B2 => ?_⟩
      obtain ⟨kv2, hk2⟩ := P2.there
      refine ⟨rfl, _, rfl, p, c, 2, b + 100, rfl, P2, by decide, by decide, fun v H3 v0 v1 P3 B3 => ?_⟩
      refine ⟨rfl, ?_⟩
      refine ⟨p, c, m, b, _, _, rfl, P3, m2, m12, fun q n ts rs H4 y ok nm kp P4 => ?_⟩
      exact k q n ts rs H4 y ok nm ((((Kp.of_but B1 hk0).trans (.of_but B2 hk1)).trans (.of_but B3 hk2)).trans kp) P4
end
end Y
set_option Elab.async false
set_option linter.all false
set_option maxRecDepth 100000
set_option maxHeartbeats 4000000
namespace Y
open PySem L2
abbrev sListed : Stmt := top 34
/-- at y: a row, as a list or a tuple -/
def RowAt (K : PySem.W.Frag) (H : Hp) (y : V) (ns : List Int) : Prop := ∃ b, y = .ref b ∧ (SqL K H b (ns.map V.int) ∨ SqT K H b (ns.map V.int))
theorem RowAt.kp {K : PySem.W.Frag} {H H' : Hp} {y : V} {r : List Int} (h : RowAt K H y r) (s : Kp H H') : RowAt K H' y r := by
  obtain ⟨b, e, h⟩ := h
  exact ⟨b, e, s.seq h⟩
theorem rows_kp {K : PySem.W.Frag} {H H' : Hp} {ys : List V} {rs : List (List Int)} (h : Paired (RowAt K H) ys rs) (s : Kp H H') : Paired (RowAt K H') ys rs := rings_map (fun _ _ h => h.kp s) h
theorem rows_snoc {R : V → List Int → Prop} {ys : List V} {rs : List (List Int)} {y : V} {r : List Int} (h : Paired R ys rs) (a : R y r) : Paired R (ys ++ [y]) (rs ++ [r]) := by
  induction h with
  | nil => exact .cons a .nil
  | cons b _ ih => exact .cons b ih
theorem paired_get {R : V → List Int → Prop} {ys : List V} {rs : List (List Int)} (h : Paired R ys rs) : ∀ {i : Nat} {y : V}, ys[i]? = some y → ∃ r, rs[i]? = some r ∧ R y r := by
  induction h with
  | nil => intro i y e; simp at e
  | cons a _ ih =>
    intro i y e
    cases i with
    | zero => cases Option.some.inj e; exact ⟨_, rfl, a⟩
    | succ i => exact ih e
theorem ty_tup {K : PySem.W.Frag} {H : Hp} {a : Addr} {xs : List V} (h : SqT K H a xs) : TyX K H (.ref a) (.type "tuple") := by
  rcases h with (h | ⟨o, h⟩) | ⟨o, its, n, l, c, _⟩
  · exact .base (.tup h)
  · exact .fTuple h
  · exact .kTuple l c
/-- a row that is not empty stands when the list of rows grows -/
theorem RowAt.grow {K : PySem.W.Frag} {H : Hp} {D : Addr} {zs : List V} {o : HO} {v : V} {r : List Int} (h : RowAt K H v r) (hr : r ≠ []) (e : H D = some (.lst zs)) (hz : ∀ x ∈ zs, ∃ b, x = V.ref b) : RowAt K (upd H D o) v r := by
  obtain ⟨b, e', h⟩ := h
  have nl : ∀ {u : HO}, H b = some u → u ≠ .lst zs → b ≠ D := fun h1 h2 z => h2 (by rw [z, e] at h1; exact (Option.some.inj h1).symm)
  refine ⟨b, e', ?_⟩
  rcases h with ((h | ⟨o, h⟩) | h) | ((h | ⟨o, h⟩) | h)
  · refine .inl (.inl (.inl ?_))
    rw [upd_ne (nl h fun z => ?_)]
    · exact h
    · obtain ⟨a, l, rfl⟩ := List.exists_cons_of_ne_nil hr
      injection z with z
      obtain ⟨b', e2⟩ := hz (.int a) (by rw [← z]; exact List.mem_cons_self)
      cases e2
  · exact .inl (.inl (.inr ⟨o, by rw [upd_ne (nl h (by intro z; cases z))]; exact h⟩))
  · exact .inl (.inr h)
  · exact .inr (.inl (.inl (by rw [upd_ne (nl h (by intro z; cases z))]; exact h)))
  · exact .inr (.inl (.inr ⟨o, by rw [upd_ne (nl h (by intro z; cases z))]; exact h⟩))
  · exact .inr (.inr h)
theorem rows_refs {K : PySem.W.Frag} {H : Hp} {zs : List V} {rs : List (List Int)} (h : Paired (RowAt K H) zs rs) : ∀ x ∈ zs, ∃ b, x = V.ref b := by
  induction h with
  | nil => intro x hx; cases hx
  | cons a _ ih =>
    intro x hx
    rcases List.mem_cons.mp hx with rfl | hx
    · obtain ⟨b, e, _⟩ := a; exact ⟨b, e⟩
    · exact ih x hx
theorem rows_grow {K : PySem.W.Frag} {H : Hp} {D : Addr} {zs xs : List V} {o : HO} {rs : List (List Int)} (h : Paired (RowAt K H) xs rs) (hr : ∀ r ∈ rs, r ≠ []) (e : H D = some (.lst zs)) (hz : ∀ x ∈ zs, ∃ b, x = V.ref b) : Paired (RowAt K (upd H D o)) xs rs := by
  induction h with
  | nil => exact .nil
  | cons a _ ih => exact .cons (a.grow (hr _ List.mem_cons_self) e hz) (ih fun r h => hr r (List.mem_cons_of_mem _ h))
def spL1 (K : PySem.W.Frag) : Sp := fun vs H Q _ => ∃ (p c s : Addr) (ns : List Int) (b : Nat), vs = [.ref p, .ref s] ∧ Pen H p c (b + 1) ∧ SqT K H s (ns.map V.int) ∧ ns.length ≤ 100 ∧
  ∀ q H', RowAt K H' (.ref q) ns → Kp H H' → Pen H' p c b → Q (.ref q) H'
def spL2 (K : PySem.W.Frag) : Sp := fun vs H Q _ => ∃ (p c s : Addr) (ys : List V) (rows : List (List Int)) (b : Nat), vs = [.ref p, .ref s] ∧ Pen H p c (b + (rows.length + 1)) ∧ SqT K H s ys ∧ Paired (TupI K H) ys rows ∧ rows.length ≤ 100 ∧ (∀ r ∈ rows, r.length ≤ 100 ∧ r ≠ []) ∧
  ∀ q zs H', (SqL K H' q zs ∨ SqT K H' q zs) → Paired (RowAt K H') zs rows → Kp H H' → Pen H' p c b → Q (.ref q) H'
structure TLs (K : PySem.W.Frag) (mg : Str → Option Value) (fDraw fL : Addr) : Prop where
  g : TG K mg fDraw
  isi : mg "isinstance" = none
  gL : mg "_law_listed" = some (.ref fL)
section
variable {P : Program} {w : World} {K : PySem.W.Frag} {mg : Str → Option Value} {base : Heap} {fDraw : Addr}
theorem isi_at {X : Cx} {K : PySem.W.Frag} (e : X.K = K) : CallR X (.builtin "isinstance") (rIsi K) := by
  subst e
  exact call_isi
theorem scListed : FnScope ["_law_pen_here", "_law_some", "_law_found", "_law_one"] ["_law_pen_here", "_law_some"] (defScope sListed) := ⟨rfl, rfl, rfl, by decide +kernel, rfl, by decide +kernel, by decide +kernel⟩
theorem ok_l0 {f : Addr} {fd : FuncData} (F : Fun K "_law_listed" "_law_listed" sListed f fd) : FnOk P w K mg base CX0 1 f fd ["_law_pen_here", "_law_some"] (fun _ _ _ _ => False) :=
  F.ok scListed (fun vs H Q E h => h.elim) (fun cdv A outer s H vs Q E hr h => h.elim)
theorem ok_l1 {f : Addr} {fd fdD : FuncData} (F : Fun K "_law_listed" "_law_listed" sListed f fd) (bL : Binds K fd ["_law_pen_here", "_law_some"] []) (T : TLs K mg fDraw f) (FD : Fun K "_law_draw" "_law_draw" sDraw fDraw fdD) (bD : Binds K fdD ["_law_pen_here", "_law_many"] []) :
    FnOk P w K mg base CX0 2 f fd ["_law_pen_here", "_law_some"] (spL1 K) := by
  have GD : FnOk P w K mg base CX0 1 fDraw fdD ["_law_pen_here", "_law_many"] spDraw := ok_draw FD T.g.p
  have GI : FnOk P w K mg base CX0 1 f fd ["_law_pen_here", "_law_some"] (fun _ _ _ _ => False) := ok_l0 F
  refine F.ok scListed (fun vs H Q E h => ?_) (fun cdv A outer s H vs Q E hr h => ?_)
  · obtain ⟨p, c, q, ns, b, rfl, _⟩ := h
    rfl
  · obtain ⟨p, c, q, ns, b, rfl, hP, hS, hl, k⟩ := h
    have hr1 : Room 1 _ := hr
    refine ⟨_, pss_cons (ps_setLc (own := [("_law_one", 3)]) (i := 2) (g := gName 3) (tt := tYes) rfl scListed.nd rfl rfl (sw_true rfl rfl rfl (by decide +kernel)) (pi_tup (pv 1)) (blkOk_by (N := ["_law_pen_here", "_law_some", "_law_found", "_law_one"]) (sc := defScope sListed) (by decide +kernel))
        (fun _ _ _ _ _ => pg_name (i := 3) scListed.nd rfl (Or.inl rfl)) (fun _ _ _ _ _ => pts_nil) (fun _ _ _ _ _ => pe_ifExp (pt_val (pe_callB (isi_at (K := K) rfl) (by rfl) T.isi (by decide +kernel) (pa_cons (pv 3) (pa_cons (pbT (n := "tuple") T.g.tuple (by decide +kernel)) pa_nil))))
          (pe_call GI hr (by rfl) T.gL F.kp bL .nil pass0 (pa_cons (pv 0) (pa_cons (pv 3) pa_nil))) (pv 3)))
      (pss_one (ps_ret (pe_ifExp (pt_cmpR op_eq (pe_call GD hr1 (by rfl) T.g.p.gDraw FD.kp bD .nil pass0 (pa_cons (pv 0) (pa_cons pe_int pa_nil))) pe_int (nomark _)) (pv 2) (pe_callTy call_tuple_of (by rfl) T.g.tuple (by decide +kernel) (pa_cons (pv 2) pa_nil))))), ?_⟩
    refine ⟨_, rfl, q, rfl, ⟨_, hS⟩, fun D hD => ?_⟩
    refine lcp_tup (f := fun x => x) (xs := ns.map V.int) hD (by rw [List.length_map]; omega) hS (fun H' s' => Same.seqT s' hS) (fun i x H2 R hx s2 hR => ?_) ?_
    · obtain ⟨z, _, rfl⟩ := ints_at hx
      refine ⟨rfl, _, rfl, _, _, _, _, false, rfl, ClsV.ty _, .base (TyOf.int z), kit_ty (by decide +kernel), _, rfl, ?_⟩
      exact iteF ⟨_, rfl, hR⟩
    · rw [List.map_id']
      obtain ⟨kv0, hk0⟩ := (hP.same (Same.new (o := .lst (ns.map V.int)) hD)).there
      refine ⟨_, rfl, p, c, 2, b, rfl, hP.same (Same.new hD), by decide, by decide, fun z H1 z0 z1 P1 B1 => ?_⟩
      have eD := B1.keep hk0 upd_same (by intro z; cases z)
      have kp1 : Kp H H1 := (Kp.new hD).trans (.of_but B1 hk0)
      refine ⟨rfl, _, rfl, ?_⟩
      refine ifT (fun _ => ?_) (fun _ => ?_)
      · exact ⟨_, rfl, k D H1 ⟨D, rfl, .inl (SqL.of eD)⟩ kp1 P1⟩
      · exact ⟨_, rfl, D, _, rfl, .inl ⟨SqL.of eD, fun t nt => k t _ ⟨t, rfl, .inr (SqT.of upd_same)⟩ (kp1.trans (.new nt)) (P1.same (Same.new nt))⟩⟩
theorem ok_l2 {f : Addr} {fd fdD : FuncData} (F : Fun K "_law_listed" "_law_listed" sListed f fd) (bL : Binds K fd ["_law_pen_here", "_law_some"] []) (T : TLs K mg fDraw f) (FD : Fun K "_law_draw" "_law_draw" sDraw fDraw fdD) (bD : Binds K fdD ["_law_pen_here", "_law_many"] []) :
    FnOk P w K mg base CX0 3 f fd ["_law_pen_here", "_law_some"] (spL2 K) := by
  have GD : FnOk P w K mg base CX0 1 fDraw fdD ["_law_pen_here", "_law_many"] spDraw := ok_draw FD T.g.p
  have GI : FnOk P w K mg base CX0 2 f fd ["_law_pen_here", "_law_some"] (spL1 K) := ok_l1 F bL T FD bD
  refine F.ok scListed (fun vs H Q E h => ?_) (fun cdv A outer s H vs Q E hr h => ?_)
  · obtain ⟨p, c, q, ys, rows, b, rfl, _⟩ := h
    rfl
  · obtain ⟨p, c, q, ys, rows, b, rfl, hP, hS, hp, hl, hrow, k⟩ := h
    have hr1 : Room 1 _ := hr.mono (by decide)
    refine ⟨_, pss_cons (ps_setLc (own := [("_law_one", 3)]) (i := 2) (g := gName 3) (tt := tYes) rfl scListed.nd rfl rfl (sw_true rfl rfl rfl (by decide +kernel)) (pi_tup (pv 1)) (blkOk_by (N := ["_law_pen_here", "_law_some", "_law_found", "_law_one"]) (sc := defScope sListed) (by decide +kernel))
        (fun _ _ _ _ _ => pg_name (i := 3) scListed.nd rfl (Or.inl rfl)) (fun _ _ _ _ _ => pts_nil) (fun _ _ _ _ _ => pe_ifExp (pt_val (pe_callB (isi_at (K := K) rfl) (by rfl) T.isi (by decide +kernel) (pa_cons (pv 3) (pa_cons (pbT (n := "tuple") T.g.tuple (by decide +kernel)) pa_nil))))
          (pe_call GI hr (by rfl) T.gL F.kp bL .nil pass0 (pa_cons (pv 0) (pa_cons (pv 3) pa_nil))) (pv 3)))
      (pss_one (ps_ret (pe_ifExp (pt_cmpR op_eq (pe_call GD hr1 (by rfl) T.g.p.gDraw FD.kp bD .nil pass0 (pa_cons (pv 0) (pa_cons pe_int pa_nil))) pe_int (nomark _)) (pv 2) (pe_callTy call_tuple_of (by rfl) T.g.tuple (by decide +kernel) (pa_cons (pv 2) pa_nil))))), ?_⟩
    have hyl : ys.length = rows.length := Paired.length hp
    refine ⟨_, rfl, q, rfl, ⟨_, hS⟩, fun D hD => ?_⟩
    have Do := hP.off hD
    refine lc_tup (K := K) (a := q) (xs := ys) (fun i H' => ∃ zs, H' D = some (.lst zs) ∧ Paired (RowAt K H') zs (rows.take i) ∧ zs.length = i ∧ Kp H H' ∧ Pen H' p c (b + (rows.length + 1 - i)))
      ⟨[], upd_same, .nil, rfl, .new hD, hP.same (Same.new hD)⟩ (fun i H' _ ⟨_, _, _, _, kp, _⟩ => kp.seqT hS) (fun i x H' hx h => ?_) (fun H' h => ?_)
    · obtain ⟨zs, eD, pz, lz, kp, pn⟩ := h
      obtain ⟨r, er, g, rfl, hg⟩ := paired_get hp hx
      have hi : i < rows.length := by
        rcases Nat.lt_or_ge i rows.length with h | h
        · exact h
        · rw [List.getElem?_eq_none h] at er; cases er
      refine ⟨rfl, _, rfl, _, _, _, _, true, rfl, ClsV.ty _, ty_tup (kp.seqT hg), kit_ty (by decide +kernel), _, rfl, ?_⟩
      refine iteT ?_
      refine ⟨_, rfl, _, rfl, p, c, g, r, b + (rows.length + 1 - (i + 1)), rfl, by rw [show b + (rows.length + 1 - (i + 1)) + 1 = b + (rows.length + 1 - i) by omega]; exact pn, kp.seqT hg, (hrow r (List.mem_of_getElem? er)).1, fun y H1 hy kp1 pn1 => ?_⟩
      have eD1 := kp1.lst eD
      have K1 : Kp H (upd H1 D (.lst (zs ++ [V.ref y]))) := (kp.trans kp1).upd hD
      have rz := rows_refs pz
      have tk : rows.take (i + 1) = rows.take i ++ [r] := take_next er
      refine ⟨zs, eD1, by rw [lz]; exact Nat.lt_of_lt_of_le (by omega : i < 1000) (by decide), zs ++ [V.ref y], upd_same, ?_, by rw [List.length_append, lz]; rfl, K1, pn1.upd Do.1 Do.2⟩
      rw [tk]
      exact rows_snoc (rows_grow (rows_kp pz kp1) (fun r hr => (hrow r (List.mem_of_mem_take hr)).2) eD1 rz) (hy.grow (hrow r (List.mem_of_getElem? er)).2 eD1 rz)
    · obtain ⟨zs, eD, pz, lz, kp, pn⟩ := h
      rw [hyl, List.take_length] at pz
      obtain ⟨kv0, hk0⟩ := pn.there
      refine ⟨_, rfl, p, c, 2, b, rfl, by rw [hyl] at pn; rw [show b + 1 = b + (rows.length + 1 - rows.length) by omega]; exact pn, by decide, by decide, fun z H1 z0 z1 P1 B1 => ?_⟩
      have eD1 := B1.keep hk0 eD (by intro z; cases z)
      have kB : Kp H' H1 := .of_but B1 hk0
      refine ⟨rfl, _, rfl, ?_⟩
      refine ifT (fun _ => ?_) (fun _ => ?_)
      · exact ⟨_, rfl, k D zs H1 (.inl (SqL.of eD1)) (rows_kp pz kB) (kp.trans kB) P1⟩
      · exact ⟨_, rfl, D, _, rfl, .inl ⟨SqL.of eD1, fun t nt => k t zs _ (.inr (SqT.of upd_same)) (rows_kp pz (kB.trans (.new nt))) ((kp.trans kB).trans (.new nt)) (P1.same (Same.new nt))⟩⟩
end
end Y
set_option Elab.async false
set_option linter.all false
set_option maxRecDepth 100000
set_option maxHeartbeats 4000000
namespace Y
open PySem L2
abbrev sMoves : Stmt := top 31
abbrev sAll : Stmt := top 37
inductive Mv where
  | slide (a b : Int)
  | turn (k : Int)
deriving DecidableEq
def Mv.vs : Mv → List V
  | .slide a b => [.str "slide", .int a, .int b]
  | .turn k => [.str "turn", .int k]
def MvAt (K : PySem.W.Frag) (H : Hp) (y : V) (m : Mv) : Prop := ∃ b, y = .ref b ∧ SqT K H b m.vs
theorem MvAt.kp {K : PySem.W.Frag} {H H' : Hp} {y : V} {m : Mv} (h : MvAt K H y m) (s : Kp H H') : MvAt K H' y m := by
  obtain ⟨b, e, h⟩ := h
  exact ⟨b, e, s.seqT h⟩
theorem par_map {α β : Type} {R R' : α → β → Prop} {ys : List α} {rs : List β} (f : ∀ y r, R y r → R' y r) (h : Paired R ys rs) : Paired R' ys rs := by
  induction h with
  | nil => exact .nil
  | cons a _ ih => exact .cons (f _ _ a) ih
theorem par_snoc {α β : Type} {R : α → β → Prop} {ys : List α} {rs : List β} {y : α} {r : β} (h : Paired R ys rs) (a : R y r) : Paired R (ys ++ [y]) (rs ++ [r]) := by
  induction h with
  | nil => exact .cons a .nil
  | cons b _ ih => exact .cons b ih
theorem par_app {α β : Type} {R : α → β → Prop} {ys zs : List α} {rs ss : List β} (h : Paired R ys rs) (g : Paired R zs ss) : Paired R (ys ++ zs) (rs ++ ss) := by
  induction h with
  | nil => exact g
  | cons b _ ih => exact .cons b ih
theorem par_get {α β : Type} {R : α → β → Prop} {ys : List α} {rs : List β} (h : Paired R ys rs) : ∀ {i : Nat} {y : α}, ys[i]? = some y → ∃ r, rs[i]? = some r ∧ R y r := by
  induction h with
  | nil => intro i y e; simp at e
  | cons a _ ih =>
    intro i y e
    cases i with
    | zero => cases Option.some.inj e; exact ⟨_, rfl, a⟩
    | succ i => exact ih e
theorem seqT_off {K : PySem.W.Frag} {H : Hp} {D b : Addr} {zs xs : List V} {o : HO} (h : SqT K H b xs) (e : H D = some (.lst zs)) : SqT K (upd H D o) b xs := by
  rcases h with (h | ⟨u, h⟩) | h
  · exact .inl (.inl (by rw [upd_ne (ne_of h e (by intro z; cases z))]; exact h))
  · exact .inl (.inr ⟨u, by rw [upd_ne (ne_of h e (by intro z; cases z))]; exact h⟩)
  · exact .inr h
theorem MvAt.off {K : PySem.W.Frag} {H : Hp} {D : Addr} {zs : List V} {y : V} {m : Mv} {o : HO} (h : MvAt K H y m) (e : H D = some (.lst zs)) : MvAt K (upd H D o) y m := by
  obtain ⟨b, e', h⟩ := h
  exact ⟨b, e', seqT_off h e⟩
abbrev MvsAt (K : PySem.W.Frag) (H : Hp) (ys : List V) (ms : List Mv) : Prop := Paired (MvAt K H) ys ms
/-! ### which moves there are -/
def slideOf (t : Int × Int) : Mv := .slide t.1 t.2
def turns (n : Nat) : List Mv := (List.range n).map fun k => .turn (k : Nat)
def allMoves (ts : List (Int × Int)) (rs : List (List Int)) : List Mv := ts.map slideOf ++ turns rs.length
def gAt (st : List Int) (i : Int) : Int := st.getD i.toNat 0
def canSlide (st : List Int) (t : Int × Int) : Bool := decide (0 < gAt st t.1) && decide (gAt st t.2 = 0)
def movesOf (ts : List (Int × Int)) (rs : List (List Int)) (st : List Int) : List Mv := (ts.filter (canSlide st)).map slideOf ++ turns rs.length
def spAll (K : PySem.W.Frag) : Sp := fun vs H Q _ => ∃ (q : Addr) (n : Nat) (ts : List (Int × Int)) (rs : List (List Int)), vs = [.ref q] ∧ YdAt K H q n ts rs ∧ ts.length ≤ 1000 ∧ rs.length ≤ 1000 ∧
  ∀ l ys H', H' l = some (.lst ys) → MvsAt K H' ys (allMoves ts rs) → Same H H' → Q (.ref l) H'
def spMoves (K : PySem.W.Frag) : Sp := fun vs H Q _ => ∃ (q s : Addr) (n : Nat) (ts : List (Int × Int)) (rs : List (List Int)) (st : List Int), vs = [.ref q, .ref s] ∧ YdAt K H q n ts rs ∧ ts.length ≤ 1000 ∧ rs.length ≤ 1000 ∧ (∀ t ∈ ts, TieOk n t) ∧ SqT K H s (st.map V.int) ∧ st.length = n ∧
  ∀ l ys H', H' l = some (.lst ys) → MvsAt K H' ys (movesOf ts rs st) → Same H H' → Q (.ref l) H'
theorem turns_succ (n : Nat) : turns (n + 1) = turns n ++ [.turn (n : Nat)] := by
  unfold turns
  rw [List.range_succ, List.map_append]
  rfl
section
variable {P : Program} {w : World} {K : PySem.W.Frag} {mg : Str → Option Value} {base : Heap} {fDraw : Addr}
theorem Same.upd_new {H H' : Hp} {a : Addr} {o : HO} (s : Same H H') (h : H a = none) : Same H (upd H' a o) := fun b u e => by rw [upd_ne (ne_of_none e h)]; exact s b u e
theorem pgT {X : Cx} {K : PySem.W.Frag} {es : List Expr} {k : Nat} {t : TGs} {n : Nat} {pos : Pos} (eK : X.K = K) (hc : X.calm = true) (h : PGs X es t) (hn : (assignEach es X.env).length = n) (hst : (assignEach es X.env).findIdx? (·.1) = none) : PG X (.Tuple es k pos) (gTup K n t) := by
  subst eK
  exact pg_tup hc h hn hst
theorem scAll : FnScope ["_law_yard", "_law_a", "_law_b", "_law_k"] ["_law_yard"] (defScope sAll) := ⟨rfl, rfl, rfl, by decide +kernel, rfl, by decide +kernel, by decide +kernel⟩
/-- the second half: the turns -/
theorem lc_turns {K : PySem.W.Frag} {n : Nat} {vs : List Nat} {σ : L2.St} {H0 H1 : Hp} {D : Addr} {i : Nat} {Qd : Hp → Prop} (s0 : Same H0 H1) (hn : H1 D = none) (hz : n ≤ 1000) (hk : ∀ (v : V), (wipe σ vs).set i (some v) = (wipe σ vs).set i (some v) → wipe ((wipe σ vs).set i (some v)) vs = wipe σ vs) (hi : ∀ v : V, ((wipe σ vs).set i (some v))[i]? = some (some v))
    (hd : ∀ zs H', H' D = some (.lst zs) → MvsAt K H' zs (turns n) → Same H1 H' → Qd H') :
    ∃ W : Nat → Nat → Hp → Prop, (∃ m, W 0 m (upd H1 D (.lst []))) ∧ ∀ j m H, W j m H →
      ((Itr 0 n).stop j H ∧ Qd H) ∨ ((Itr 0 n).go j H ∧ ∃ Nx : Hp → Prop, (∀ H', Nx H' → ∃ m', m' < m ∧ W (j + 1) m' H') ∧ ∀ x H', (Itr 0 n).yld j H x H' → gName i x (wipe σ vs) H' fun σ2 H2 => wipe σ2 vs = wipe σ vs ∧ tYes σ2 H2 fun b H3 =>
        if b = true then tTup (tCons (tC (.str "turn")) (tCons (tVar i) tNil)) σ2 H3 fun y H4 => ∃ acc, H4 D = some (.lst acc) ∧ acc.length < sizeLine ∧ Nx (upd H4 D (.lst (acc ++ [y]))) else Nx H3) := by
  refine lc_range (lo := 0) (n := n) (fun j H => ∃ zs, H D = some (.lst zs) ∧ MvsAt K H zs (turns j) ∧ zs.length = j ∧ Same H1 H) ⟨[], upd_same, .nil, rfl, Same.new hn⟩ (fun j H hj h => ?_) (fun H h => ?_)
  · obtain ⟨zs, e, p, l, s⟩ := h
    refine ⟨hk _ rfl, ?_⟩
    refine ⟨_, hi _, (by show 2 ≤ sizeLine; decide), fun t nt => ?_⟩
    have e1 : (upd H t (.tup [.str "turn", .int (0 + (j : Int))])) D = some (.lst zs) := Same.new nt _ _ e
    refine ⟨zs, e1, by rw [l]; exact Nat.lt_of_lt_of_le (by omega : j < 1001) (by decide), zs ++ [V.ref t], upd_same, ?_, by rw [List.length_append, l]; rfl, Same.upd_new (s.trans (Same.new nt)) hn⟩
    rw [turns_succ]
    refine par_snoc (par_map (fun y m h => (h.kp (.new nt)).off e1) p) ⟨t, rfl, ?_⟩
    refine seqT_off (SqT.of ?_) e1
    rw [upd_same]
    show some (HO.tup [.str "turn", .int (0 + (j : Int))]) = some (.tup [.str "turn", .int (j : Nat)])
    rw [Int.zero_add]
  · obtain ⟨zs, e, p, _, s⟩ := h
    exact hd zs H e p s
theorem ok_all {f : Addr} {fd : FuncData} (F : Fun K "_law_all_moves" "_law_all_moves" sAll f fd) (T : TG K mg fDraw) : FnOk P w K mg base CX0 1 f fd ["_law_yard"] (spAll K) := by
  refine F.ok scAll (fun vs H Q E h => ?_) (fun cdv A outer s H vs Q E hr h => ?_)
  · obtain ⟨q, n, ts, rs, rfl, _⟩ := h
    rfl
  · obtain ⟨q, n, ts, rs, rfl, ⟨a, e, ys, zs, hq, ha, pa, he, pe⟩, hts, hrs, k⟩ := h
    refine ⟨_, pss_one (ps_ret (pe_op op_cat
      (pe_lc (own := [("_law_a", 1), ("_law_b", 2)]) (g := gTup K 2 (gCons (gName 1) (gCons (gName 2) gNil))) (tt := tYes) rfl scAll.nd (pi_tup (pe_ix ix_tup (pv 0) pe_int (fun _ _ => rfl))) (blkOk_by (N := ["_law_yard", "_law_a", "_law_b", "_law_k"]) (sc := defScope sAll) (by decide +kernel))
        (fun _ _ _ _ _ => pgT (K := K) (n := 2) rfl rfl (pgs_cons (pg_name (i := 1) scAll.nd rfl (Or.inl rfl)) (pgs_cons (pg_name (i := 2) scAll.nd rfl (Or.inl rfl)) pgs_nil)) rfl rfl) (fun _ _ _ _ _ => pts_nil) (fun _ _ _ _ _ => pe_tup (pa_cons pe_str (pa_cons (pv 1) (pa_cons (pv 2) pa_nil)))))
      (pe_lc (own := [("_law_k", 3)]) (g := gName 3) (tt := tYes) rfl scAll.nd (pi_range1 (by rfl) T.range (pa_cons (pe_callB call_len_seq (by rfl) T.p.len PySem.boot_len (pa_cons (pe_ix ix_tup (pv 0) pe_int (fun _ _ => rfl)) pa_nil)) pa_nil)) (blkOk_by (N := ["_law_yard", "_law_a", "_law_b", "_law_k"]) (sc := defScope sAll) (by decide +kernel))
        (fun _ _ _ _ _ => pg_name (i := 3) scAll.nd rfl (Or.inl rfl)) (fun _ _ _ _ _ => pts_nil) (fun _ _ _ _ _ => pe_tup (pa_cons pe_str (pa_cons (pv 3) pa_nil)))))), ?_⟩
    have hyl : ys.length = ts.length := ties_len pa
    have hzl : zs.length = rs.length := Paired.length pe
    refine ⟨_, rfl, q, _, 1, _, rfl, rfl, hq, atI_nat (j := 1) rfl, a, rfl, ⟨_, ha⟩, fun D hD => ?_⟩
    refine lc_tup (K := K) (a := a) (xs := ys) (fun i H' => ∃ ws, H' D = some (.lst ws) ∧ MvsAt K H' ws ((ts.take i).map slideOf) ∧ ws.length = i ∧ Same H H') ⟨[], upd_same, .nil, rfl, Same.new hD⟩ (fun i H' _ ⟨_, _, _, _, s⟩ => Same.seqT s ha) (fun i x H1 hx h => ?_) (fun H1 h => ?_)
    · obtain ⟨ws, eD, pw, lw, s1⟩ := h
      obtain ⟨t, et, b, rfl, hb⟩ := ties_get pa hx
      have hi : i < ts.length := by
        rcases Nat.lt_or_ge i ts.length with h | h
        · exact h
        · rw [List.getElem?_eq_none h] at et; cases et
      refine ⟨b, _, rfl, Same.seqT s1 hb, rfl, _, _, rfl, _, _, rfl, rfl, rfl, ?_⟩
      refine ⟨_, rfl, _, rfl, (by show 3 ≤ sizeLine; decide), fun m nm => ?_⟩
      have e1 := Same.new nm (o := .tup [.str "slide", .int t.1, .int t.2]) _ _ eD
      refine ⟨ws, e1, by rw [lw]; exact Nat.lt_of_lt_of_le (by omega : i < 1001) (by decide), ws ++ [V.ref m], upd_same, ?_, by rw [List.length_append, lw]; rfl, Same.upd_new (s1.trans (Same.new nm)) hD⟩
      rw [take_next et, List.map_append]
      exact par_snoc (par_map (fun y m' h => (h.kp (.new nm)).off e1) pw) ⟨m, rfl, seqT_off (SqT.of upd_same) e1⟩
    · obtain ⟨ws, eD, pw, lw, s1⟩ := h
      rw [hyl, List.take_length] at pw
      refine ⟨_, rfl, q, _, 2, _, rfl, rfl, Same.seqT s1 hq, atI_nat (j := 2) rfl, e, zs, rfl, .inr (Same.seqT s1 he), (zs.length : Int), rfl, by omega, by omega, fun D2 hD2 => ?_⟩
      refine lc_turns (K := K) s1 hD2 (by omega) (fun v _ => rfl) (fun v => rfl) fun us H2 e2 p2 s2 => ?_
      have eD2 := s2 _ _ eD
      refine ⟨D, D2, ws, us, rfl, rfl, eD2, e2, Nat.le_trans (by rw [lw, Paired.length p2, turns, List.length_map, List.length_range]; omega : ws.length + us.length ≤ 2000) (by decide), fun l nl => ?_⟩
      have hz : ((zs.length : Int)).toNat = rs.length := by omega
      rw [hz] at p2
      exact k l (ws ++ us) _ upd_same (par_app (par_map (fun y m h => h.kp ((Kp.of_same s2).trans (.new nl))) pw) (par_map (fun y m h => h.kp (.new nl)) p2)) ((s1.trans s2).trans (Same.new nl))
end
end Y
set_option Elab.async false
set_option linter.all false
set_option maxRecDepth 100000
set_option maxHeartbeats 4000000
namespace Y
open PySem L2
theorem ixT_at {X : Cx} {K : PySem.W.Frag} (e : X.K = K) : IxR X (rIxT K) := by
  subst e
  exact ix_tup
theorem atI_st {st : List Int} {i : Int} (h0 : 0 ≤ i) (h1 : i < st.length) : atI (st.map V.int) i = some (.int (gAt st i)) := by
  refine atI_int h0 ?_
  have h : i.toNat < st.length := by omega
  rw [List.getElem?_map, List.getElem?_eq_getElem h]
  unfold gAt
  rw [List.getD_eq_getElem?_getD, List.getElem?_eq_getElem h]
  rfl
theorem filter_snoc {α : Type} (p : α → Bool) (l : List α) (t : α) : (l ++ [t]).filter p = if p t = true then l.filter p ++ [t] else l.filter p := by
  rw [List.filter_append]
  by_cases h : p t = true
  · rw [if_pos h]; simp [h]
  · rw [if_neg h]; simp [h]
section
variable {P : Program} {w : World} {K : PySem.W.Frag} {mg : Str → Option Value} {base : Heap} {fDraw : Addr}
theorem scMoves : FnScope ["_law_yard", "_law_stand", "_law_found", "_law_a", "_law_b", "_law_k"] ["_law_yard", "_law_stand"] (defScope sMoves) := ⟨rfl, rfl, rfl, by decide +kernel, rfl, by decide +kernel, by decide +kernel⟩
theorem ok_moves {f : Addr} {fd : FuncData} (F : Fun K "_law_moves" "_law_moves" sMoves f fd) (T : TG K mg fDraw) : FnOk P w K mg base CX0 1 f fd ["_law_yard", "_law_stand"] (spMoves K) := by
  refine F.ok scMoves (fun vs H Q E h => ?_) (fun cdv A outer s H vs Q E hr h => ?_)
  · obtain ⟨q, s, n, ts, rs, st, rfl, _⟩ := h
    rfl
  · obtain ⟨q, s, n, ts, rs, st, rfl, ⟨a, e, ys, zs, hq, ha, pa, he, pe⟩, hts, hrs, tok, hs, hst, k⟩ := h
    refine ⟨_, pss_cons (ps_setLc (own := [("_law_a", 3), ("_law_b", 4)]) (i := 2) (g := gTup K 2 (gCons (gName 3) (gCons (gName 4) gNil))) rfl scMoves.nd rfl rfl (sw_true rfl rfl rfl (by decide +kernel)) (pi_tup (pe_ix ix_tup (pv 0) pe_int (fun _ _ => rfl))) (blkOk_by (N := ["_law_yard", "_law_stand", "_law_found", "_law_a", "_law_b", "_law_k"]) (sc := defScope sMoves) (by decide +kernel))
        (fun _ _ _ _ _ => pgT (K := K) (n := 2) rfl rfl (pgs_cons (pg_name (i := 3) scMoves.nd rfl (Or.inl rfl)) (pgs_cons (pg_name (i := 4) scMoves.nd rfl (Or.inl rfl)) pgs_nil)) rfl rfl)
        (fun _ _ _ _ _ => pts_one (PW.pt (pw_and (pt_cmpR op_gt (pe_ix (ixT_at (K := K) rfl) (pv 1) (pv 3) (fun _ _ => rfl)) pe_int (nomark _)) (pw_and1 (pt_cmpR op_eq (pe_ix (ixT_at (K := K) rfl) (pv 1) (pv 4) (fun _ _ => rfl)) pe_int (nomark _))))))
        (fun _ _ _ _ _ => pe_tup (pa_cons pe_str (pa_cons (pv 3) (pa_cons (pv 4) pa_nil)))))
      (pss_one (ps_ret (pe_op op_cat (pv 2)
      (pe_lc (own := [("_law_k", 5)]) (g := gName 5) (tt := tYes) rfl scMoves.nd (pi_range1 (by rfl) T.range (pa_cons (pe_callB call_len_seq (by rfl) T.p.len PySem.boot_len (pa_cons (pe_ix ix_tup (pv 0) pe_int (fun _ _ => rfl)) pa_nil)) pa_nil)) (blkOk_by (N := ["_law_yard", "_law_stand", "_law_found", "_law_a", "_law_b", "_law_k"]) (sc := defScope sMoves) (by decide +kernel))
        (fun _ _ _ _ _ => pg_name (i := 5) scMoves.nd rfl (Or.inl rfl)) (fun _ _ _ _ _ => pts_nil) (fun _ _ _ _ _ => pe_tup (pa_cons pe_str (pa_cons (pv 5) pa_nil))))))), ?_⟩
    have hyl : ys.length = ts.length := ties_len pa
    have hzl : zs.length = rs.length := Paired.length pe
    refine ⟨_, rfl, q, _, 1, _, rfl, rfl, hq, atI_nat (j := 1) rfl, a, rfl, ⟨_, ha⟩, fun D hD => ?_⟩
    refine lc_tup (K := K) (a := a) (xs := ys) (fun i H' => ∃ ws, H' D = some (.lst ws) ∧ MvsAt K H' ws (((ts.take i).filter (canSlide st)).map slideOf) ∧ ws.length ≤ i ∧ Same H H') ⟨[], upd_same, .nil, Nat.le_refl 0, Same.new hD⟩ (fun i H' _ ⟨_, _, _, _, s⟩ => Same.seqT s ha) (fun i x H1 hx h => ?_) (fun H1 h => ?_)
    · obtain ⟨ws, eD, pw, lw, s1⟩ := h
      obtain ⟨t, et, b, rfl, hb⟩ := ties_get pa hx
      have hi : i < ts.length := by
        rcases Nat.lt_or_ge i ts.length with h | h
        · exact h
        · rw [List.getElem?_eq_none h] at et; cases et
      obtain ⟨a0, a1, b0, b1, _⟩ := tok t (List.mem_of_getElem? et)
      rw [← hst] at a1 b1
      refine ⟨b, _, rfl, Same.seqT s1 hb, rfl, _, _, rfl, _, _, rfl, rfl, rfl, ?_⟩
      have no : canSlide st t = false → ∃ ws, H1 D = some (.lst ws) ∧ MvsAt K H1 ws (((ts.take (i + 1)).filter (canSlide st)).map slideOf) ∧ ws.length ≤ i + 1 ∧ Same H H1 := fun c => ⟨ws, eD, by rw [take_next et, filter_snoc, c]; exact pw, by omega, s1⟩
      refine ⟨_, rfl, _, rfl, s, _, t.1, _, rfl, rfl, Same.seqT s1 hs, atI_st a0 a1, _, _, rfl, rfl, _, rfl, ?_⟩
      refine ifT (fun c1 => ?_) (fun c1 => ?_)
      · refine ⟨_, rfl, _, rfl, s, _, t.2, _, rfl, rfl, Same.seqT s1 hs, atI_st b0 b1, rfl, _, rfl, ?_⟩
        refine ifT (fun c2 => ?_) (fun c2 => ?_)
        · have c : canSlide st t = true := by
            unfold canSlide
            rw [dec_int] at c2
            rw [c1, decide_eq_true (eq_of_beq c2)]
            rfl
          refine ⟨_, rfl, _, rfl, (by show 3 ≤ sizeLine; decide), fun m nm => ?_⟩
          have e1 := Same.new nm (o := .tup [.str "slide", .int t.1, .int t.2]) _ _ eD
          refine ⟨ws, e1, Nat.lt_of_le_of_lt (by omega : ws.length ≤ 1001) (by decide), ws ++ [V.ref m], upd_same, ?_, by rw [List.length_append]; exact Nat.succ_le_succ lw, Same.upd_new (s1.trans (Same.new nm)) hD⟩
          rw [take_next et, filter_snoc, if_pos c, List.map_append]
          exact par_snoc (par_map (fun y m' h => (h.kp (.new nm)).off e1) pw) ⟨m, rfl, seqT_off (SqT.of upd_same) e1⟩
        · refine no ?_
          rw [dec_int] at c2
          have ne : ¬ gAt st t.2 = 0 := fun z => by rw [z] at c2; exact absurd c2 (by decide)
          show (decide (0 < gAt st t.1) && decide (gAt st t.2 = 0)) = false
          rw [decide_eq_false ne, Bool.and_false]
      · refine no ?_
        unfold canSlide
        rw [c1, Bool.false_and]
    · obtain ⟨ws, eD, pw, lw, s1⟩ := h
      rw [hyl, List.take_length] at pw
      refine ⟨_, rfl, _, rfl, q, _, 2, _, rfl, rfl, Same.seqT s1 hq, atI_nat (j := 2) rfl, e, zs, rfl, .inr (Same.seqT s1 he), (zs.length : Int), rfl, by omega, by omega, fun D2 hD2 => ?_⟩
      refine lc_turns (K := K) s1 hD2 (by omega) (fun v _ => rfl) (fun v => rfl) fun us H2 e2 p2 s2 => ?_
      have eD2 := s2 _ _ eD
      refine ⟨D, D2, ws, us, rfl, rfl, eD2, e2, Nat.le_trans (by rw [Paired.length p2, turns, List.length_map, List.length_range]; omega : ws.length + us.length ≤ 2000) (by decide), fun l nl => ?_⟩
      have hz : ((zs.length : Int)).toNat = rs.length := by omega
      rw [hz] at p2
      exact k l (ws ++ us) _ upd_same (par_app (par_map (fun y m h => h.kp ((Kp.of_same s2).trans (.new nl))) pw) (par_map (fun y m h => h.kp (.new nl)) p2)) ((s1.trans s2).trans (Same.new nl))
end
end Y
set_option Elab.async false
set_option linter.all false
set_option maxRecDepth 100000
set_option maxHeartbeats 4000000
namespace Y
open PySem L2
abbrev sBack : Stmt := top 39
/-! ### a row of moves taken back -/
def ringLen (rs : List (List Int)) (k : Int) : Nat := (rs.getD k.toNat []).length
def backOne (ts : List (Int × Int)) (rs : List (List Int)) : Mv → Option (List Mv)
  | .turn k => some (List.replicate (ringLen rs k - 1) (.turn k))
  | .slide a b => if (b, a) ∈ ts then some [.slide b a] else none
def backs (ts : List (Int × Int)) (rs : List (List Int)) : List Mv → Option (List Mv)
  | [] => some []
  | m :: l => (backOne ts rs m).bind fun x => (backs ts rs l).map (x ++ ·)
theorem backs_app {ts : List (Int × Int)} {rs : List (List Int)} : ∀ (l l2 : List Mv), backs ts rs (l ++ l2) = (backs ts rs l).bind fun x => (backs ts rs l2).map (x ++ ·)
  | [], l2 => by
    show backs ts rs l2 = (some []).bind fun x => (backs ts rs l2).map (x ++ ·)
    cases backs ts rs l2 <;> rfl
  | m :: l, l2 => by
    show (backOne ts rs m).bind (fun x => (backs ts rs (l ++ l2)).map (x ++ ·)) = ((backOne ts rs m).bind fun x => (backs ts rs l).map (x ++ ·)).bind fun x => (backs ts rs l2).map (x ++ ·)
    rw [backs_app l l2]
    cases backOne ts rs m with
    | none => rfl
    | some x =>
      cases backs ts rs l with
      | none => rfl
      | some y =>
        cases backs ts rs l2 with
        | none => rfl
        | some z => show some (x ++ (y ++ z)) = some (x ++ y ++ z); rw [List.append_assoc]
theorem backs_snoc {ts : List (Int × Int)} {rs : List (List Int)} {l : List Mv} {m : Mv} {x : List Mv} (h : backs ts rs l = some x) : backs ts rs (l ++ [m]) = (backOne ts rs m).map (x ++ ·) := by
  rw [backs_app, h]
  show ((backOne ts rs m).bind fun y => (some []).map (y ++ ·)).map (x ++ ·) = _
  cases backOne ts rs m with
  | none => rfl
  | some y => show some (x ++ (y ++ [])) = some (x ++ y); rw [List.append_nil]
theorem backs_fail {ts : List (Int × Int)} {rs : List (List Int)} {l l2 : List Mv} {m : Mv} (h : backOne ts rs m = none) : backs ts rs (l ++ m :: l2) = none := by
  rw [backs_app]
  show (backs ts rs l).bind (fun x => ((backOne ts rs m).bind fun y => (backs ts rs l2).map (y ++ ·)).map (x ++ ·)) = none
  rw [h]
  cases backs ts rs l <;> rfl
/-- a move of this yard's kind: a turn names one of its rings -/
def MvOk (rs : List (List Int)) : Mv → Prop
  | .turn k => 0 ≤ k ∧ k < rs.length
  | .slide _ _ => True
/-- what taking back tells: None, or a tuple of moves -/
def TkAt (K : PySem.W.Frag) (H : Hp) (v : V) : Option (List Mv) → Prop
  | none => v = .non
  | some bs => ∃ t ws, v = .ref t ∧ SqT K H t ws ∧ MvsAt K H ws bs
theorem TkAt.kp {K : PySem.W.Frag} {H H' : Hp} {v : V} {o : Option (List Mv)} (h : TkAt K H v o) (s : Kp H H') : TkAt K H' v o := by
  cases o with
  | none => exact h
  | some bs => obtain ⟨t, ws, e, h1, h2⟩ := h; exact ⟨t, ws, e, s.seqT h1, par_map (fun y m h => h.kp s) h2⟩
def spBack (K : PySem.W.Frag) : Sp := fun vs H Q _ => ∃ (q l : Addr) (n : Nat) (ts : List (Int × Int)) (rs : List (List Int)) (ys : List V) (ms : List Mv), vs = [.ref q, .ref l] ∧ YdAt K H q n ts rs ∧ (∀ r ∈ rs, r.length ≤ 100 ∧ 1 ≤ r.length) ∧ SqL K H l ys ∧ MvsAt K H ys ms ∧ ms.length ≤ 100 ∧ (∀ m ∈ ms, MvOk rs m) ∧
  ∀ v H', TkAt K H' v (backs ts rs ms.reverse) → Same H H' → Q v H'
theorem par_rev {α β : Type} {R : α → β → Prop} {ys : List α} {rs : List β} (h : Paired R ys rs) : Paired R ys.reverse rs.reverse := by
  induction h with
  | nil => exact .nil
  | cons a _ ih => rw [List.reverse_cons, List.reverse_cons]; exact par_snoc ih a
theorem par_rep {α β : Type} {R : α → β → Prop} {y : α} {r : β} (h : R y r) : ∀ n, Paired R (List.replicate n y) (List.replicate n r)
  | 0 => .nil
  | n + 1 => .cons h (par_rep h n)
theorem rep_flat {α : Type} (x : α) : ∀ n, (List.replicate n [x]).flatten = List.replicate n x
  | 0 => rfl
  | n + 1 => by rw [List.replicate_succ, List.flatten_cons, rep_flat x n]; rfl
theorem ring_at {rs : List (List Int)} {zs : List V} {K : PySem.W.Frag} {H : Hp} {k : Int} (h : Paired (RingAt K H) zs rs) (h0 : 0 ≤ k) (h1 : k < rs.length) : ∃ b r, zs[k.toNat]? = some (.ref b) ∧ rs[k.toNat]? = some r ∧ SqT K H b (r.map V.int) ∧ ringLen rs k = r.length := by
  have hl := Paired.length h
  have hk : k.toNat < zs.length := by omega
  obtain ⟨r, er, b, e, hb⟩ := par_get h (List.getElem?_eq_getElem hk)
  refine ⟨b, r, by rw [List.getElem?_eq_getElem hk, e], er, hb, ?_⟩
  unfold ringLen
  rw [List.getD_eq_getElem?_getD, er]
  rfl
section
variable {P : Program} {w : World} {K : PySem.W.Frag} {mg : Str → Option Value} {base : Heap} {fDraw : Addr}
theorem scBack : FnScope ["_law_yard", "_law_moves_here", "_law_found", "_law_move"] ["_law_yard", "_law_moves_here"] (defScope sBack) := ⟨rfl, rfl, rfl, by decide +kernel, rfl, by decide +kernel, by decide +kernel⟩
theorem ok_back {f : Addr} {fd : FuncData} (F : Fun K "_law_back" "_law_back" sBack f fd) (T : TG K mg fDraw) : FnOk P w K mg base CX0 1 f fd ["_law_yard", "_law_moves_here"] (spBack K) := by
  refine F.ok scBack (fun vs H Q E h => ?_) (fun cdv A outer s H vs Q E hr h => ?_)
  · obtain ⟨q, l, n, ts, rs, ys, ms, rfl, _⟩ := h
    rfl
  · obtain ⟨q, l, n, ts, rs, ys, ms, rfl, ⟨a, e, tys, zs, hq, ha, pa, he, pe⟩, hrs, hl, pm, h100, mok, kall⟩ := h
    have k0 : backs ts rs ms.reverse = none → ∀ H', Same H H' → Q .non H' := fun e H' s => kall .non H' (by rw [e]; exact rfl) s
    have k1 : ∀ bs, backs ts rs ms.reverse = some bs → ∀ t ws H', H' t = some (.tup ws) → MvsAt K H' ws bs → Same H H' → Q (.ref t) H' := fun bs e t ws H' et p s => kall (.ref t) H' (by rw [e]; exact ⟨t, ws, rfl, SqT.of et, p⟩) s
    have hu := hr.units
    refine ⟨_, pss_cons (ps_set (i := 2) scBack.nd rfl (Or.inl rfl) (pe_lst pa_nil))
      (pss_cons (ps_for PassesOwn.never rfl (pi_list (pe_revL (pv 1))) (pg_name (i := 3) scBack.nd rfl (Or.inl rfl))
        (pss_one (ps_if (pt_cmpR op_eq (pe_ix ix_tup (pv 3) pe_int (fun _ _ => rfl)) pe_str (nomark _))
          (pss_one (ps_set (i := 2) scBack.nd rfl (Or.inl rfl) (pe_op op_cat (pv 2) (pe_op op_rep (pe_lst (pa_cons (pv 3) pa_nil)) (pe_op op_sub (pe_callB call_len_seq (by rfl) T.p.len PySem.boot_len (pa_cons (pe_ix ix_tup (pe_ix ix_tup (pv 0) pe_int (fun _ _ => rfl)) (pe_ix ix_tup (pv 3) pe_int (fun _ _ => rfl)) (fun _ _ => rfl)) pa_nil)) pe_int)))))
          (pss_one (ps_if (pt_cmpR (op_tieIn hu) (pe_tup (pa_cons (pe_ix ix_tup (pv 3) pe_int (fun _ _ => rfl)) (pa_cons (pe_ix ix_tup (pv 3) pe_int (fun _ _ => rfl)) pa_nil))) (pe_ix ix_tup (pv 0) pe_int (fun _ _ => rfl)) (by rfl))
            (pss_one (ps_expr (pe_bm PySem.F.plainAttrs_list PySem.F.slot_list_append PySem.F.type_list_append mt_append (pv 2) (pa_cons (pe_tup (pa_cons pe_str (pa_cons (pe_ix ix_tup (pv 3) pe_int (fun _ _ => rfl)) (pa_cons (pe_ix ix_tup (pv 3) pe_int (fun _ _ => rfl)) pa_nil)))) pa_nil))))
            (pss_one (ps_ret pe_non)))))))
      (pss_one (ps_ret (pe_callTy call_tuple_of (by rfl) T.tuple (by decide +kernel) (pa_cons (pv 2) pa_nil))))), ?_⟩
    refine ⟨(by show 0 ≤ sizeLine; decide), fun f0 nf0 => ?_⟩
    refine ⟨_, rfl, l, ys, rfl, (Same.new nf0).seq hl, fun r nr => ?_⟩
    have S0 : Same H (upd (upd H f0 (.lst [])) r (.lst ys.reverse)) := (Same.new nf0).trans (Same.new nr)
    have prev := par_rev pm
    have hlen : ys.reverse.length = ms.reverse.length := Paired.length prev
    have h100' : ms.reverse.length ≤ 100 := by rw [List.length_reverse]; exact h100
    refine ⟨r, rfl, ⟨_, SqL.of upd_same⟩, for_list (K := K) (a := r) (xs := ys.reverse) (fun i σ H' => ∃ (fa : Addr) (ws : List V) (bs : List Mv) (v : Option V), σ = [some (.ref q), some (.ref l), some (.ref fa), v] ∧ H' fa = some (.lst ws) ∧ MvsAt K H' ws bs ∧ backs ts rs (ms.reverse.take i) = some bs ∧ bs.length ≤ 100 * i ∧
        H fa = none ∧ fa ≠ r ∧ H' r = some (.lst ys.reverse) ∧ Same H H')
      ⟨f0, [], [], none, rfl, Same.new nr _ _ upd_same, .nil, rfl, Nat.le_refl 0, nf0, (fun z => by rw [← z, upd_same] at nr; cases nr), upd_same, S0⟩ (fun i σ H' _ ⟨_, _, _, _, _, _, _, _, _, _, _, er, _⟩ => SqL.of er) ?_ ?_⟩
    · rintro i x σ H1 hx ⟨fa, ws, bs, v, rfl, ef, pw, hb, lb, nfa, fr, er, s1⟩
      obtain ⟨m, em, b, rfl, hm⟩ := par_get prev hx
      have hi : i < ms.reverse.length := by
        rcases Nat.lt_or_ge i ms.reverse.length with h | h
        · exact h
        · rw [List.getElem?_eq_none h] at em; cases em
      have hmem : m ∈ ms := List.mem_reverse.mp (List.mem_of_getElem? em)
      have hm1 := Same.seqT s1 hm
      have tk := take_next em
      have lw : ws.length = bs.length := Paired.length pw
      cases m with
      | turn kk =>
        obtain ⟨k0', k1'⟩ := mok _ hmem
        obtain ⟨g, rr, eg, erg, hg, hlg⟩ := ring_at pe k0' k1'
        obtain ⟨r100, r1⟩ := hrs rr (List.mem_of_getElem? erg)
        refine ⟨_, rfl, b, _, 0, _, rfl, rfl, hm1, atI_nat (j := 0) rfl, rfl, _, rfl, ?_⟩
        refine iteT ?_
        refine ⟨_, rfl, _, rfl, (by show 1 ≤ sizeLine; decide), fun o no => ?_⟩
        have s2 := s1.trans (Same.new (o := .lst [.ref b]) no)
        refine ⟨_, rfl, q, _, 2, _, rfl, rfl, Same.seqT s2 hq, atI_nat (j := 2) rfl, ?_⟩
        refine ⟨_, rfl, b, _, 1, _, rfl, rfl, Same.seqT s2 hm, atI_nat (j := 1) rfl, ?_⟩
        refine ⟨e, zs, kk, _, rfl, rfl, Same.seqT s2 he, atI_int k0' eg, ?_⟩
        refine ⟨g, _, rfl, .inr (Same.seqT s2 hg), _, _, rfl, rfl, ?_⟩
        rw [List.length_map]
        have hrep : ((rr.length : Int) - 1).toNat = rr.length - 1 := by omega
        refine ⟨o, (rr.length : Int) - 1, [.ref b], rfl, rfl, upd_same, by omega, by omega, Nat.le_trans (by rw [hrep]; show 1 * (rr.length - 1) ≤ 100; omega) (by decide), fun o2 no2 => ?_⟩
        rw [hrep, rep_flat]
        have s3 := s2.trans (Same.new (o := .lst (List.replicate (rr.length - 1) (V.ref b))) no2)
        refine ⟨fa, o2, ws, _, rfl, rfl, Same.new no2 _ _ (Same.new no _ _ ef), upd_same, Nat.le_trans (by rw [List.length_replicate, lw]; omega : ws.length + (List.replicate (rr.length - 1) (V.ref b)).length ≤ 10200) (by decide), fun o3 no3 => ?_⟩
        have s4 := s3.trans (Same.new (o := .lst (ws ++ List.replicate (rr.length - 1) (V.ref b))) no3)
        have K1 : Kp H1 _ := Kp.of_same (((Same.new (o := .lst [.ref b]) no).trans (Same.new (o := .lst (List.replicate (rr.length - 1) (V.ref b))) no2)).trans (Same.new (o := .lst (ws ++ List.replicate (rr.length - 1) (V.ref b))) no3))
        have new3 : H o3 = none := by
          cases z : H o3 with
          | none => rfl
          | some u => have := s3 o3 u z; rw [no3] at this; cases this
        have er3 : (upd (upd (upd H1 o (.lst [.ref b])) o2 (.lst (List.replicate (rr.length - 1) (V.ref b)))) o3 (.lst (ws ++ List.replicate (rr.length - 1) (V.ref b)))) r = some (.lst ys.reverse) := Same.new no3 _ _ (Same.new no2 _ _ (Same.new no _ _ er))
        have ro3 : o3 ≠ r := fun z => by
          have := Same.new no2 (o := .lst (List.replicate (rr.length - 1) (V.ref b))) _ _ (Same.new no (o := .lst [.ref b]) _ _ er)
          rw [← z, no3] at this
          cases this
        refine ⟨o3, _, bs ++ List.replicate (rr.length - 1) (.turn kk), _, rfl, upd_same, par_app (par_map (fun y m h => h.kp K1) pw) (par_rep ⟨b, rfl, Same.seqT s4 hm⟩ _), ?_, by rw [List.length_append, List.length_replicate]; omega, new3, ro3, er3, s4⟩
        rw [tk, backs_snoc hb]
        show some (bs ++ List.replicate (ringLen rs kk - 1) (.turn kk)) = _
        rw [hlg]
      | slide x y =>
        refine ⟨_, rfl, b, _, 0, _, rfl, rfl, hm1, atI_nat (j := 0) rfl, rfl, _, rfl, ?_⟩
        refine iteF ?_
        refine ⟨_, rfl, b, _, 2, _, rfl, rfl, hm1, atI_nat (j := 2) rfl, _, rfl, b, _, 1, _, rfl, rfl, hm1, atI_nat (j := 1) rfl, (by show 2 ≤ sizeLine; decide), fun t nt => ?_⟩
        have s2 := s1.trans (Same.new (o := .tup [.int y, .int x]) nt)
        refine ⟨_, rfl, q, _, 1, _, rfl, rfl, Same.seqT s2 hq, atI_nat (j := 1) rfl, ?_⟩
        refine ⟨a, tys, ts, (y, x), rfl, Same.seqT s2 ha, ties_kp pa (.of_same s2), ⟨t, rfl, SqT.of upd_same⟩, _, rfl, ?_⟩
        refine ifT (fun hin => ?_) (fun hin => ?_)
        · have hin' : (y, x) ∈ ts := of_decide_eq_true hin
          have ef2 := Same.new nt (o := .tup [.int y, .int x]) _ _ ef
          have hm2 := Same.seqT s2 hm
          refine ⟨_, rfl, .inl ⟨rfl, _, SqL.of ef2⟩, _, rfl, b, _, 2, _, rfl, rfl, hm2, atI_nat (j := 2) rfl, _, rfl, b, _, 1, _, rfl, rfl, hm2, atI_nat (j := 1) rfl, (by show 3 ≤ sizeLine; decide), fun t2 nt2 => ?_⟩
          have ef3 := Same.new nt2 (o := .tup [.str "slide", .int y, .int x]) _ _ ef2
          refine ⟨fa, ws, _, rfl, rfl, ef3, Nat.lt_of_le_of_lt (by omega : ws.length ≤ 10000) (by decide), ?_⟩
          have s3 := s2.trans (Same.new (o := .tup [.str "slide", .int y, .int x]) nt2)
          refine ⟨fa, ws ++ [.ref t2], bs ++ [.slide y x], _, rfl, upd_same, ?_, ?_, by rw [List.length_append]; show bs.length + 1 ≤ _; omega, nfa, fr, ?_, Same.upd_new s3 nfa⟩
          · exact par_snoc (par_map (fun v m h => ((h.kp (.new nt)).kp (.new nt2)).off ef3) pw) ⟨t2, rfl, seqT_off (SqT.of upd_same) ef3⟩
          · rw [tk, backs_snoc hb]
            show (if (y, x) ∈ ts then some [Mv.slide y x] else none).map (bs ++ ·) = _
            rw [if_pos hin']
            rfl
          · rw [upd_ne (Ne.symm fr)]
            exact Same.new nt2 _ _ (Same.new nt _ _ er)
        · have hin' : (y, x) ∉ ts := of_decide_eq_false hin
          refine k0 ?_ _ s2
          have hsplit : ms.reverse = ms.reverse.take i ++ .slide x y :: ms.reverse.drop (i + 1) := by
            have h1 : ms.reverse.take (i + 1) ++ ms.reverse.drop (i + 1) = ms.reverse := List.take_append_drop _ _
            rw [tk, List.append_assoc] at h1
            exact h1.symm
          rw [hsplit]
          exact backs_fail (if_neg hin')
    · rintro σ H1 ⟨fa, ws, bs, v, rfl, ef, pw, hb, lb, nfa, fr, er, s1⟩
      rw [hlen, List.take_length] at hb
      exact ⟨_, rfl, fa, _, rfl, .inl ⟨SqL.of ef, fun t nt => k1 bs hb t ws _ upd_same (par_map (fun v m h => h.kp (.new nt)) pw) (s1.trans (Same.new nt))⟩⟩
end
end Y
set_option Elab.async false
set_option linter.all false
set_option maxRecDepth 100000
set_option maxHeartbeats 4000000
namespace Y
open PySem L2
abbrev sMoved : Stmt := top 32
/-! ### what a move does to a stand -/
def turnTo (r st : List Int) (n : Nat) : List Int := (List.range n).foldl (fun acc j => acc.set (r.getD ((j + 1) % r.length) 0).toNat (gAt st (r.getD j 0))) st
def stepMv (rs : List (List Int)) (st : List Int) : Mv → List Int
  | .slide a b => (st.set a.toNat 0).set b.toNat (gAt st a)
  | .turn k => turnTo (rs.getD k.toNat []) st (rs.getD k.toNat []).length
theorem turnTo_succ (r st : List Int) (n : Nat) : turnTo r st (n + 1) = (turnTo r st n).set (r.getD ((n + 1) % r.length) 0).toNat (gAt st (r.getD n 0)) := by
  unfold turnTo
  rw [List.range_succ, List.foldl_append]
  rfl
theorem turnTo_len (r st : List Int) : ∀ n, (turnTo r st n).length = st.length
  | 0 => rfl
  | n + 1 => by rw [turnTo_succ, List.length_set, turnTo_len r st n]
theorem stepMv_len (rs : List (List Int)) (st : List Int) (m : Mv) : (stepMv rs st m).length = st.length := by
  cases m with
  | slide a b => show ((st.set a.toNat 0).set b.toNat (gAt st a)).length = _; rw [List.length_set, List.length_set]
  | turn k => exact turnTo_len _ _ _
/-- the move can be made -/
def CanMv (n : Nat) (ts : List (Int × Int)) (rs : List (List Int)) (st : List Int) : Mv → Prop
  | .slide a b => (a, b) ∈ ts ∧ TieOk n (a, b) ∧ 0 < gAt st a ∧ gAt st b = 0
  | .turn k => 0 ≤ k ∧ k < rs.length
def spMoved (K : PySem.W.Frag) : Sp := fun vs H Q _ => ∃ (q s : Addr) (y : V) (n : Nat) (ts : List (Int × Int)) (rs : List (List Int)) (st : List Int) (m : Mv), vs = [.ref q, .ref s, y] ∧ YdAt K H q n ts rs ∧ n ≤ 100 ∧ (∀ r ∈ rs, RingOk n r) ∧ SqT K H s (st.map V.int) ∧ st.length = n ∧ MvAt K H y m ∧ CanMv n ts rs st m ∧
  ∀ t H', H' t = some (.tup ((stepMv rs st m).map V.int)) → Same H H' → Q (.ref t) H'
theorem ixN_ok {n : Nat} {i : Int} (h0 : 0 ≤ i) (h1 : i < n) : ixN n i = some i.toNat := by
  unfold ixN
  rw [if_pos h0, if_pos h1]
theorem getD_at {r : List Int} {i : Nat} (h : i < r.length) : (r.map V.int)[i]? = some (.int (r.getD i 0)) := by
  rw [List.getElem?_map, List.getElem?_eq_getElem h, List.getD_eq_getElem?_getD, List.getElem?_eq_getElem h]
  rfl
theorem getD_mem {r : List Int} {i : Nat} (h : i < r.length) : r.getD i 0 ∈ r := by
  rw [List.getD_eq_getElem?_getD, List.getElem?_eq_getElem h]
  exact List.getElem_mem h
section
variable {P : Program} {w : World} {K : PySem.W.Frag} {mg : Str → Option Value} {base : Heap} {fDraw : Addr}
theorem scMoved : FnScope ["_law_yard", "_law_stand", "_law_move", "_law_found", "_law_ring", "_law_k"] ["_law_yard", "_law_stand", "_law_move"] (defScope sMoved) := ⟨rfl, rfl, rfl, by decide +kernel, rfl, by decide +kernel, by decide +kernel⟩
theorem ok_moved {f : Addr} {fd : FuncData} (F : Fun K "_law_moved" "_law_moved" sMoved f fd) (T : TG K mg fDraw) : FnOk P w K mg base CX0 1 f fd ["_law_yard", "_law_stand", "_law_move"] (spMoved K) := by
  refine F.ok scMoved (fun vs H Q E h => ?_) (fun cdv A outer s H vs Q E hr h => ?_)
  · obtain ⟨q, s, y, n, ts, rs, st, m, rfl, _⟩ := h
    rfl
  · obtain ⟨q, s, y, n, ts, rs, st, m, rfl, ⟨a, e, tys, zs, hq, ha, pa, he, pe⟩, n100, rok, hs, hst, ⟨b, rfl, hm⟩, can, k⟩ := h
    have hu := hr.units
    have ix : ∀ i : Nat, True := fun _ => trivial
    refine ⟨_, pss_cons (ps_set (i := 3) scMoved.nd rfl (Or.inl rfl) (pe_callTy call_list_of (by rfl) T.p.list (by decide +kernel) (pa_cons (pv 1) pa_nil)))
      (pss_cons (ps_if (pt_cmpR op_eq (pe_ix ix_tup (pv 2) pe_int (fun _ _ => rfl)) pe_str (nomark _))
        (pss_cons (ps_if (PW.pt (pw_or (pt_cmpR (op_tieNotIn hu) (pe_tup (pa_cons (pe_ix ix_tup (pv 2) pe_int (fun _ _ => rfl)) (pa_cons (pe_ix ix_tup (pv 2) pe_int (fun _ _ => rfl)) pa_nil))) (pe_ix ix_tup (pv 0) pe_int (fun _ _ => rfl)) (by rfl))
            (pw_or (pt_cmpR op_eq (pe_ix ix_tup (pv 1) (pe_ix ix_tup (pv 2) pe_int (fun _ _ => rfl)) (fun _ _ => rfl)) pe_int (nomark _)) (pw_or1 (pt_cmpR op_ne (pe_ix ix_tup (pv 1) (pe_ix ix_tup (pv 2) pe_int (fun _ _ => rfl)) (fun _ _ => rfl)) pe_int (nomark _))))))
            (pss_one (ps_ret pe_non)) pss_nil)
        (pss_cons (ps_asg (pe_tup (pa_cons pe_int (pa_cons (pe_ix ix_tup (pv 1) (pe_ix ix_tup (pv 2) pe_int (fun _ _ => rfl)) (fun _ _ => rfl)) pa_nil))) (pg_tup rfl (pgs_cons (pg_sub (pv 3) (pe_ix ix_tup (pv 2) pe_int (fun _ _ => rfl)) set_list) (pgs_cons (pg_sub (pv 3) (pe_ix ix_tup (pv 2) pe_int (fun _ _ => rfl)) set_list) pgs_nil))))
        (pss_one (ps_ret (pe_callTy call_tuple_of (by rfl) T.tuple (by decide +kernel) (pa_cons (pv 3) pa_nil))))))
        pss_nil)
      (pss_cons (ps_set (i := 4) scMoved.nd rfl (Or.inl rfl) (pe_ix ix_tup (pe_ix ix_tup (pv 0) pe_int (fun _ _ => rfl)) (pe_ix ix_tup (pv 2) pe_int (fun _ _ => rfl)) (fun _ _ => rfl)))
      (pss_cons (ps_for PassesOwn.never rfl (pi_range1 (by rfl) T.range (pa_cons (pe_callB call_len_seq (by rfl) T.p.len PySem.boot_len (pa_cons (pv 4) pa_nil)) pa_nil)) (pg_name (i := 5) scMoved.nd rfl (Or.inl rfl))
        (pss_one (ps_asg (pe_ix ix_tup (pv 1) (pe_ix ix_tup (pv 4) (pv 5) (fun _ _ => rfl)) (fun _ _ => rfl))
          (pg_sub (pv 3) (pe_ix ix_tup (pv 4) (pe_op op_mod (pe_callTy call_int1 (by rfl) T.p.int (by decide +kernel) (pa_cons (pe_op op_add (pv 5) pe_int) pa_nil)) (pe_callB call_len_seq (by rfl) T.p.len PySem.boot_len (pa_cons (pv 4) pa_nil))) (fun _ _ => rfl)) set_list))))
      (pss_one (ps_ret (pe_callTy call_tuple_of (by rfl) T.tuple (by decide +kernel) (pa_cons (pv 3) pa_nil))))))), ?_⟩
    refine ⟨_, rfl, s, _, rfl, .inr hs, fun l nl => ?_⟩
    have s1 := Same.new (o := .lst (st.map V.int)) nl
    have hm1 := Same.seqT s1 hm
    have hs1 := Same.seqT s1 hs
    cases m with
    | slide x z =>
      obtain ⟨hin, ⟨x0, x1, z0, z1, _⟩, gx, gz⟩ := can
      have x1' : x < st.length := by rw [hst]; exact x1
      have z1' : z < st.length := by rw [hst]; exact z1
      refine ⟨_, rfl, b, _, 0, _, rfl, rfl, hm1, atI_nat (j := 0) rfl, rfl, _, rfl, ?_⟩
      refine iteT ?_
      refine ⟨_, rfl, b, _, 1, _, rfl, rfl, hm1, atI_nat (j := 1) rfl, _, rfl, b, _, 2, _, rfl, rfl, hm1, atI_nat (j := 2) rfl, (by show 2 ≤ sizeLine; decide), fun t nt => ?_⟩
      have s2 := s1.trans (Same.new (o := .tup [.int x, .int z]) nt)
      have hm2 := Same.seqT s2 hm
      have hs2 := Same.seqT s2 hs
      refine ⟨_, rfl, q, _, 1, _, rfl, rfl, Same.seqT s2 hq, atI_nat (j := 1) rfl, ?_⟩
      refine ⟨a, tys, ts, (x, z), rfl, Same.seqT s2 ha, ties_kp pa (.of_same s2), ⟨t, rfl, SqT.of upd_same⟩, _, rfl, ?_⟩
      refine ifT (fun h => by simp [hin] at h) (fun _ => ?_)
      refine ⟨_, rfl, _, rfl, b, _, 1, _, rfl, rfl, hm2, atI_nat (j := 1) rfl, s, _, x, _, rfl, rfl, hs2, atI_st x0 x1', rfl, _, rfl, ?_⟩
      refine ifT (fun h => by rw [dec_int] at h; have := eq_of_beq h; omega) (fun _ => ?_)
      refine ⟨_, rfl, _, rfl, b, _, 2, _, rfl, rfl, hm2, atI_nat (j := 2) rfl, s, _, z, _, rfl, rfl, hs2, atI_st z0 z1', rfl, _, rfl, ?_⟩
      refine ifT (fun h => by rw [gz] at h; simp at h) (fun _ => ?_)
      refine ⟨_, rfl, _, rfl, b, _, 1, _, rfl, rfl, hm2, atI_nat (j := 1) rfl, s, _, x, _, rfl, rfl, hs2, atI_st x0 x1', (by show 2 ≤ sizeLine; decide), fun t2 nt2 => ?_⟩
      have s3 := s2.trans (Same.new (o := .tup [.int 0, .int (gAt st x)]) nt2)
      have hm3 := Same.seqT s3 hm
      have el : (upd (upd (upd H l (.lst (st.map V.int))) t (.tup [.int x, .int z])) t2 (.tup [.int 0, .int (gAt st x)])) l = some (.lst (st.map V.int)) := Same.new nt2 _ _ (Same.new nt _ _ upd_same)
      refine ⟨t2, _, rfl, SqT.of upd_same, rfl, _, _, rfl, ?_⟩
      refine ⟨_, rfl, _, rfl, b, _, 1, _, rfl, rfl, hm3, atI_nat (j := 1) rfl, l, _, x, x.toNat, rfl, rfl, el, by rw [List.length_map]; exact ixN_ok x0 x1', ?_⟩
      rw [map_set]
      have s4 := Same.upd_new (o := .lst ((st.set x.toNat 0).map V.int)) s3 nl
      refine ⟨_, _, rfl, _, rfl, _, rfl, b, _, 2, _, rfl, rfl, Same.seqT s4 hm, atI_nat (j := 2) rfl, l, _, z, z.toNat, rfl, rfl, upd_same, by rw [List.length_map, List.length_set]; exact ixN_ok z0 z1', ?_⟩
      rw [map_set]
      have s5 := Same.upd_new (o := .lst (((st.set x.toNat 0).set z.toNat (gAt st x)).map V.int)) s4 nl
      refine ⟨rfl, ?_⟩
      exact ⟨_, rfl, l, _, rfl, .inl ⟨SqL.of upd_same, fun u nu => k u _ upd_same (s5.trans (Same.new nu))⟩⟩
    | turn kk =>
      obtain ⟨k0, k1⟩ := can
      obtain ⟨g, rr, eg, erg, hg, hlg⟩ := ring_at pe k0 k1
      obtain ⟨_, rb, r3, rn⟩ := rok rr (List.mem_of_getElem? erg)
      have hrd : rs.getD kk.toNat [] = rr := by rw [List.getD_eq_getElem?_getD, erg]; rfl
      refine ⟨_, rfl, b, _, 0, _, rfl, rfl, hm1, atI_nat (j := 0) rfl, rfl, _, rfl, ?_⟩
      refine iteF ?_
      refine ⟨_, rfl, q, _, 2, _, rfl, rfl, Same.seqT s1 hq, atI_nat (j := 2) rfl, _, rfl, b, _, 1, _, rfl, rfl, hm1, atI_nat (j := 1) rfl, e, zs, kk, _, rfl, rfl, Same.seqT s1 he, atI_int k0 eg, ?_⟩
      refine ⟨_, rfl, g, _, rfl, .inr (Same.seqT s1 hg), _, rfl, by omega, by rw [List.length_map]; omega, ?_⟩
      rw [List.length_map]
      refine for_range (lo := 0) (n := ((rr.length : Int)).toNat) (fun i σ H' => ∃ v, σ = [some (.ref q), some (.ref s), some (.ref b), some (.ref l), some (.ref g), v] ∧ H' l = some (.lst ((turnTo rr st i).map V.int)) ∧ Same H H') ⟨none, rfl, upd_same, s1⟩ ?_ ?_
      · rintro i σ H1 hi ⟨v, rfl, el, sH⟩
        have hi' : i < rr.length := by omega
        have hg1 := Same.seqT sH hg
        obtain ⟨p0, p1⟩ := rb _ (getD_mem hi')
        have hmod : (i + 1) % rr.length < rr.length := Nat.mod_lt _ (by omega)
        obtain ⟨m0, m1⟩ := rb _ (getD_mem hmod)
        refine ⟨_, rfl, _, rfl, _, rfl, g, _, 0 + (i : Int), _, rfl, rfl, hg1, (by rw [Int.zero_add]; exact atI_nat (getD_at hi')), s, _, _, _, rfl, rfl, Same.seqT sH hs, atI_st p0 (by rw [hst]; exact p1), ?_⟩
        refine ⟨_, rfl, _, rfl, _, rfl, _, _, rfl, rfl, .inl ⟨_, rfl, _, rfl, g, _, rfl, .inr hg1, _, _, rfl, rfl, by rw [List.length_map]; omega, ?_⟩⟩
        rw [List.length_map]
        have em : ((0 + (i : Int) + 1) % (rr.length : Int)) = (((i + 1) % rr.length : Nat) : Int) := by
          rw [Int.natCast_emod]
          congr 1
          omega
        refine ⟨g, _, _, _, rfl, rfl, hg1, (by rw [em]; exact atI_nat (getD_at hmod)), ?_⟩
        refine ⟨l, _, _, _, rfl, rfl, el, by rw [List.length_map, turnTo_len]; exact ixN_ok m0 (by rw [hst]; exact m1), ?_⟩
        rw [map_set]
        exact ⟨_, rfl, by rw [turnTo_succ]; exact upd_same, Same.upd_new sH nl⟩
      · rintro σ H1 ⟨v, rfl, el, sH⟩
        refine ⟨_, rfl, l, _, rfl, .inl ⟨SqL.of el, fun u nu => k u _ ?_ (sH.trans (Same.new nu))⟩⟩
        rw [upd_same]
        show some (HO.tup ((turnTo rr st ((rr.length : Int)).toNat).map V.int)) = some (.tup ((turnTo (rs.getD kk.toNat []) st (rs.getD kk.toNat []).length).map V.int))
        rw [hrd, show ((rr.length : Int)).toNat = rr.length by omega]
end
end Y
set_option Elab.async false
set_option linter.all false
set_option maxRecDepth 100000
set_option maxHeartbeats 4000000
namespace Y
open PySem L2
abbrev sSMoves : Stmt := top 38
/-! ### xs == [] -/
def rEqNil (K : PySem.W.Frag) : R2 := fun x y H Q => ∃ p q xs, x = .ref p ∧ y = .ref q ∧ SqL K H p xs ∧ SqL K H q [] ∧ Q (.bl xs.isEmpty) H
theorem op_eq_nil {X : Cx} (hu : X.A.units < cLine) : OpR X (compareOp .Eq) (rEqNil X.K) := by
  intro pins s σ H x y v u Q I rx ry h
  obtain ⟨p, q, xs, rfl, rfl, hp, hq, k⟩ := h
  cases rx
  cases ry
  obtain ⟨its, r1, l1, _⟩ := I.list hp
  obtain ⟨jts, r2, l2, _⟩ := I.list hq
  cases r2
  cases r1 with
  | nil =>
    refine SeqAt.eq_listAt (e := fun _ => true) l1.isList l2.isList rfl hu (fun j h1 _ => absurd h1 (by simp)) ?_
    exact ⟨.bl true, H, I, rfl, k⟩
  | cons a t =>
    refine SeqAt.eq_list_lengthsAt l1.isList l2.isList (by simp) hu ?_
    exact ⟨.bl false, H, I, rfl, k⟩
/-! ### a row of moves that can be made -/
def playMvs (rs : List (List Int)) : List Int → List Mv → List Int
  | st, [] => st
  | st, m :: l => playMvs rs (stepMv rs st m) l
def CanAll (n : Nat) (ts : List (Int × Int)) (rs : List (List Int)) : List Int → List Mv → Prop
  | _, [] => True
  | st, m :: l => CanMv n ts rs st m ∧ CanAll n ts rs (stepMv rs st m) l
theorem play_snoc {rs : List (List Int)} {m : Mv} : ∀ {l : List Mv} {st : List Int}, playMvs rs st (l ++ [m]) = stepMv rs (playMvs rs st l) m
  | [], _ => rfl
  | a :: l, st => play_snoc (l := l) (st := stepMv rs st a)
theorem can_snoc {n : Nat} {ts : List (Int × Int)} {rs : List (List Int)} {m : Mv} : ∀ {l : List Mv} {st : List Int}, CanAll n ts rs st l → CanMv n ts rs (playMvs rs st l) m → CanAll n ts rs st (l ++ [m])
  | [], _, _, h => ⟨h, trivial⟩
  | _ :: _, _, h, g => ⟨h.1, can_snoc h.2 g⟩
theorem play_len {rs : List (List Int)} : ∀ {l : List Mv} {st : List Int}, (playMvs rs st l).length = st.length
  | [], _ => rfl
  | m :: l, st => by show (playMvs rs (stepMv rs st m) l).length = _; rw [play_len, stepMv_len]
theorem can_of_mem {n : Nat} {ts : List (Int × Int)} {rs : List (List Int)} {st : List Int} {m : Mv} (tok : ∀ t ∈ ts, TieOk n t) (h : m ∈ movesOf ts rs st) : CanMv n ts rs st m := by
  unfold movesOf at h
  rcases List.mem_append.mp h with h | h
  · obtain ⟨t, ht, rfl⟩ := List.mem_map.mp h
    obtain ⟨h1, h2⟩ := List.mem_filter.mp ht
    unfold canSlide at h2
    rw [Bool.and_eq_true, decide_eq_true_iff, decide_eq_true_iff] at h2
    exact ⟨h1, tok t h1, h2.1, h2.2⟩
  · unfold turns at h
    obtain ⟨k, hk, rfl⟩ := List.mem_map.mp h
    rw [List.mem_range] at hk
    exact ⟨by omega, by omega⟩
def spSMoves (K : PySem.W.Frag) : Sp := fun vs H Q _ => ∃ (p c q s : Addr) (n b mo : Nat) (ts : List (Int × Int)) (rs : List (List Int)) (st : List Int), vs = [.ref p, .ref q, .ref s, .int (mo : Int)] ∧ Pen H p c (b + mo + 1) ∧ mo ≤ 100 ∧ YdAt K H q n ts rs ∧ YdOk n ts rs ∧ SqT K H s (st.map V.int) ∧ st.length = n ∧
  ∀ l ys ms H', H' l = some (.lst ys) → MvsAt K H' ys ms → ms.length ≤ mo → CanAll n ts rs st ms → Kp H H' → Pen H' p c b → Q (.ref l) H'
structure TM (K : PySem.W.Frag) (mg : Str → Option Value) (fDraw fPick fMoves fMoved : Addr) : Prop where
  g : TG K mg fDraw
  gPick : mg "_law_pick" = some (.ref fPick)
  gMoves : mg "_law_moves" = some (.ref fMoves)
  gMoved : mg "_law_moved" = some (.ref fMoved)
section
variable {P : Program} {w : World} {K : PySem.W.Frag} {mg : Str → Option Value} {base : Heap} {fDraw fPick fMoves fMoved : Addr}
theorem scSMoves : FnScope ["_law_pen_here", "_law_yard", "_law_stand", "_law_most", "_law_found", "_law_lap", "_law_some"] ["_law_pen_here", "_law_yard", "_law_stand", "_law_most"] (defScope sSMoves) := ⟨rfl, rfl, rfl, by decide +kernel, rfl, by decide +kernel, by decide +kernel⟩
theorem ok_smoves {f : Addr} {fd fdD fdK fdM fdV : FuncData} (F : Fun K "_law_some_moves" "_law_some_moves" sSMoves f fd) (T : TM K mg fDraw fPick fMoves fMoved) (FD : Fun K "_law_draw" "_law_draw" sDraw fDraw fdD) (bD : Binds K fdD ["_law_pen_here", "_law_many"] [])
    (FK : Fun K "_law_pick" "_law_pick" sPick fPick fdK) (bK : Binds K fdK ["_law_pen_here", "_law_some"] []) (FM : Fun K "_law_moves" "_law_moves" sMoves fMoves fdM) (bM : Binds K fdM ["_law_yard", "_law_stand"] [])
    (FV : Fun K "_law_moved" "_law_moved" sMoved fMoved fdV) (bV : Binds K fdV ["_law_yard", "_law_stand", "_law_move"] []) :
    FnOk P w K mg base CX0 3 f fd ["_law_pen_here", "_law_yard", "_law_stand", "_law_most"] (spSMoves K) := by
  have GD : FnOk P w K mg base CX0 1 fDraw fdD ["_law_pen_here", "_law_many"] spDraw := ok_draw FD T.g.p
  have GK : FnOk P w K mg base CX0 2 fPick fdK ["_law_pen_here", "_law_some"] (spPick K) := ok_pick FK T.g.p FD bD
  have GM : FnOk P w K mg base CX0 1 fMoves fdM ["_law_yard", "_law_stand"] (spMoves K) := ok_moves FM T.g
  have GV : FnOk P w K mg base CX0 1 fMoved fdV ["_law_yard", "_law_stand", "_law_move"] (spMoved K) := ok_moved FV T.g
  refine F.ok scSMoves (fun vs H Q E h => ?_) (fun cdv A outer s H vs Q E hr h => ?_)
  · obtain ⟨p, c, q, s, n, b, mo, ts, rs, st, rfl, _⟩ := h
    rfl
  · obtain ⟨p, c, q, s, n, b, mo, ts, rs, st, rfl, hP, m100, hy, ⟨n1, n12, ⟨_, tok, _⟩, tl, rok, rl⟩, hs, hst, k⟩ := h
    have hu := Nat.lt_of_succ_lt (hu_of hr)
    have hr1 : Room 1 _ := hr.mono (by decide)
    refine ⟨_, pss_cons (ps_set (i := 4) scSMoves.nd rfl (Or.inl rfl) (pe_lst pa_nil))
      (pss_cons (ps_for PassesOwn.never rfl (pi_range1 (by rfl) T.g.range (pa_cons (pe_call GD hr1 (by rfl) T.g.p.gDraw FD.kp bD .nil pass0 (pa_cons (pv 0) (pa_cons (pe_op op_add (pv 3) pe_int) pa_nil))) pa_nil)) (pg_name (i := 5) scSMoves.nd rfl (Or.inl rfl))
        (pss_cons (ps_set (i := 6) scSMoves.nd rfl (Or.inl rfl) (pe_call GM hr1 (by rfl) T.gMoves FM.kp bM .nil pass0 (pa_cons (pv 1) (pa_cons (pv 2) pa_nil))))
        (pss_cons (ps_if (pt_cmpR (op_eq_nil hu) (pv 6) (pe_lst pa_nil) (nomark _)) (pss_one ps_break) pss_nil)
        (pss_cons (ps_expr (pe_bm PySem.F.plainAttrs_list PySem.F.slot_list_append PySem.F.type_list_append mt_append (pv 4) (pa_cons (pe_call GK hr (by rfl) T.gPick FK.kp bK .nil pass0 (pa_cons (pv 0) (pa_cons (pv 6) pa_nil))) pa_nil)))
        (pss_one (ps_set (i := 2) scSMoves.nd rfl (Or.inl rfl) (pe_call GV hr1 (by rfl) T.gMoved FV.kp bV .nil pass0 (pa_cons (pv 1) (pa_cons (pv 2) (pa_cons (pe_ix ix_list (pv 4) (pe_un un_neg pe_int) (fun _ _ => rfl)) pa_nil))))))))))
      (pss_one (ps_ret (pv 4)))), ?_⟩
    refine ⟨(by show 0 ≤ sizeLine; decide), fun l nl => ?_⟩
    have lo := hP.off nl
    have P0 := hP.same (Same.new (o := .lst []) nl)
    obtain ⟨kv0, hk0⟩ := P0.there
    refine ⟨_, rfl, _, rfl, _, _, rfl, rfl, p, c, _, b + mo, rfl, P0, by omega, by omega, fun u H1 u0 u1 P1 B1 => ?_⟩
    have kp1 : Kp H H1 := (Kp.new nl).trans (.of_but B1 hk0)
    refine ⟨u, rfl, by omega, by omega, ?_⟩
    refine for_range (lo := 0) (n := u.toNat) (fun i σ H' => ∃ (s' : Addr) (v5 v6 : Option V) (ys : List V) (ms : List Mv), σ = [some (.ref p), some (.ref q), some (.ref s'), some (.int (mo : Int)), some (.ref l), v5, v6] ∧ H' l = some (.lst ys) ∧ MvsAt K H' ys ms ∧ ms.length ≤ i ∧ ms.length ≤ mo ∧ CanAll n ts rs st ms ∧
        SqT K H' s' ((playMvs rs st ms).map V.int) ∧ Kp H H' ∧ Pen H' p c (b + mo - i))
      ⟨s, none, none, [], [], rfl, B1.keep hk0 upd_same (by intro z; cases z), .nil, Nat.le_refl 0, Nat.zero_le _, trivial, kp1.seqT hs, kp1, P1⟩ ?_ ?_
    · rintro i σ H2 hi ⟨s', v5, v6, ys, ms, rfl, el, pm, lm, lmo, ca, hs', kp, pn⟩
      refine ⟨_, rfl, _, rfl, q, s', n, ts, rs, playMvs rs st ms, rfl, hy.kp kp, by omega, by omega, tok, hs', by rw [play_len, hst], fun g zs H3 eg pg sg => ?_⟩
      have el3 := sg _ _ el
      have P3 := pn.same sg
      have kp3 := kp.trans (.of_same sg)
      have pm3 := par_map (fun y m h => MvAt.kp h (.of_same sg)) pm
      refine ⟨_, rfl, (by show 0 ≤ sizeLine; decide), fun o no => ?_⟩
      refine ⟨g, o, zs, rfl, rfl, SqL.of (Same.new no _ _ eg), SqL.of upd_same, _, rfl, ?_⟩
      have kpo : Kp H (upd H3 o (.lst [])) := kp3.trans (.new no)
      have pmo := par_map (fun y m h => MvAt.kp h (.new (o := .lst []) no)) pm3
      refine ifT (fun _ => ?_) (fun hne => ?_)
      · refine ⟨_, rfl, ?_⟩
        exact k l ys ms _ (Same.new no _ _ el3) pmo lmo ca kpo ((P3.same (Same.new no)).less (by omega))
      · have ego := Same.new no (o := .lst []) _ _ eg
        have elo := Same.new no (o := .lst []) _ _ el3
        have Po := P3.same (Same.new (o := .lst []) no)
        obtain ⟨kv3, hk3⟩ := Po.there
        refine ⟨_, rfl, .inl ⟨rfl, _, SqL.of elo⟩, _, rfl, _, rfl, p, c, g, zs, b + mo - (i + 1), rfl, by rw [show b + mo - (i + 1) + 1 = b + mo - i by omega]; exact Po, .inl (SqL.of ego), (fun z => by rw [z] at hne; cases hne), ?_, fun x j H4 hx P4 B4 => ?_⟩
        · have e1 := Paired.length pg
          have e2 : (movesOf ts rs (playMvs rs st ms)).length ≤ 100 := by
            unfold movesOf turns
            rw [List.length_append, List.length_map, List.length_map, List.length_range]
            have := List.length_filter_le (canSlide (playMvs rs st ms)) ts
            omega
          omega
        obtain ⟨m, em, hm⟩ := par_get pg hx
        have cm := can_of_mem tok (List.mem_of_getElem? em)
        have kB := Kp.of_but B4 hk3
        have el4 := kB.lst elo
        have hm4 : MvAt K H4 x m := (hm.kp (.new no)).kp kB
        refine ⟨l, ys, x, rfl, rfl, el4, Nat.lt_of_le_of_lt (by rw [Paired.length pm]; omega : ys.length ≤ 100) (by decide), ?_⟩
        have kp5 : Kp H (upd H4 l (.lst (ys ++ [x]))) := (kpo.trans kB).upd nl
        have hm5 := hm4.off (o := .lst (ys ++ [x])) el4
        refine ⟨_, rfl, _, rfl, _, rfl, 1, rfl, l, _, -1, _, rfl, rfl, SqL.of upd_same, atI_last _ _, ?_⟩
        have hs5 : SqT K (upd H4 l (.lst (ys ++ [x]))) s' ((playMvs rs st ms).map V.int) := seqT_off (kB.seqT ((Kp.new no).seqT ((Kp.of_same sg).seqT hs'))) el4
        refine ⟨q, s', x, n, ts, rs, playMvs rs st ms, m, rfl, hy.kp kp5, by omega, rok, hs5, by rw [play_len, hst], hm5, cm, fun t H6 et st6 => ?_⟩
        refine ⟨t, _, _, ys ++ [x], ms ++ [m], rfl, st6 _ _ upd_same, ?_, by rw [List.length_append]; exact Nat.succ_le_succ lm, by rw [List.length_append]; show ms.length + 1 ≤ mo; omega, can_snoc ca cm, by rw [play_snoc]; exact SqT.of et, kp5.trans (.of_same st6), (P4.upd lo.1 lo.2).same st6⟩
        exact par_snoc (par_map (fun y m h => (h.kp kB |>.off el4).kp (.of_same st6)) pmo) (hm5.kp (.of_same st6))
    · rintro σ H2 ⟨s', v5, v6, ys, ms, rfl, el, pm, lm, lmo, ca, hs', kp, pn⟩
      exact ⟨_, rfl, k l ys ms H2 el pm lmo ca kp (pn.less (by omega))⟩
end
end Y
set_option Elab.async false
set_option linter.all false
set_option maxRecDepth 100000
set_option maxHeartbeats 4000000
namespace Y
open PySem L2
abbrev sIsInt : Stmt := top 1
abbrev sIsRow : Stmt := top 3
abbrev sCan : Stmt := top 18
structure TI0 (mg : Str → Option Value) : Prop where
  isi : mg "isinstance" = none
  int : mg "int" = none
  bool : mg "bool" = none
  tuple : mg "tuple" = none
  list : mg "list" = none
def spIsInt : Sp := fun vs H Q _ => ∃ z : Int, vs = [.int z] ∧ Q (.bl true) H
def spIsRow (K : PySem.W.Frag) : Sp := fun vs H Q _ => ∃ x : V, vs = [x] ∧ (TyX K H x (.type "list") ∨ TyX K H x (.type "tuple")) ∧ ∀ H', Same H H' → Q (.bl true) H'
theorem TyX.same {K : PySem.W.Frag} {H H' : Hp} {a : Addr} {xs : List V} (h : SqL K H a xs) : TyX K H (.ref a) (.type "list") := by
  rcases h with (h | ⟨o, h⟩) | ⟨o, its, n, l, c, _⟩
  · exact .base (.lst h)
  · exact .base (.frz h)
  · exact .kList l c
section
variable {P : Program} {w : World} {K : PySem.W.Frag} {mg : Str → Option Value} {base : Heap}
theorem scIsInt : FnScope ["value"] ["value"] (defScope sIsInt) := ⟨rfl, rfl, rfl, by decide +kernel, rfl, by decide +kernel, by decide +kernel⟩
theorem ok_isInt {f : Addr} {fd : FuncData} (F : Fun K "is_integer" "is_integer" sIsInt f fd) (T : TI0 mg) : FnOk P w K mg base CX0 1 f fd ["value"] spIsInt := by
  refine F.ok scIsInt (fun vs H Q E h => ?_) (fun cdv A outer s H vs Q E hr h => ?_)
  · obtain ⟨z, rfl, _⟩ := h
    rfl
  · obtain ⟨z, rfl, k⟩ := h
    refine ⟨_, pss_one (ps_ret (pe_and (pe_callB call_isi (by rfl) T.isi (by decide +kernel) (pa_cons (pv 0) (pa_cons (pbT (n := "int") T.int (by decide +kernel)) pa_nil))) (pe_one (pe_not (pe_callB call_isi (by rfl) T.isi (by decide +kernel) (pa_cons (pv 0) (pa_cons (pbT (n := "bool") T.bool (by decide +kernel)) pa_nil))))))), ?_⟩
    refine ⟨_, rfl, _, _, _, _, true, rfl, ClsV.ty _, .base (TyOf.int z), kit_ty (by decide +kernel), true, rfl, iteT ?_⟩
    exact ⟨_, rfl, _, _, _, _, false, rfl, ClsV.ty _, .base (TyOf.int z), kit_ty (by decide +kernel), false, rfl, k⟩
theorem scIsRow : FnScope ["value"] ["value"] (defScope sIsRow) := ⟨rfl, rfl, rfl, by decide +kernel, rfl, by decide +kernel, by decide +kernel⟩
theorem kit_row {K : PySem.W.Frag} {t : String} (h : t = "list" ∨ t = "tuple") : PySem.W.kitAny K (.type t) [.type "tuple", .type "list"] = some true := by
  rcases h with rfl | rfl
  · have e1 : PySem.W.kitOne K (.type "list") (.type "tuple") = some false := kit_ty (by decide +kernel)
    have e2 : PySem.W.kitOne K (.type "list") (.type "list") = some true := kit_ty (by decide +kernel)
    simp only [PySem.W.kitAny, e1, e2]
  · have e1 : PySem.W.kitOne K (.type "tuple") (.type "tuple") = some true := kit_ty (by decide +kernel)
    simp only [PySem.W.kitAny, e1]
theorem ok_isRow {f : Addr} {fd : FuncData} (F : Fun K "is_row" "is_row" sIsRow f fd) (T : TI0 mg) : FnOk P w K mg base CX0 1 f fd ["value"] (spIsRow K) := by
  refine F.ok scIsRow (fun vs H Q E h => ?_) (fun cdv A outer s H vs Q E hr h => ?_)
  · obtain ⟨x, rfl, _⟩ := h
    rfl
  · obtain ⟨x, rfl, hx, k⟩ := h
    refine ⟨_, pss_one (ps_ret (pe_callB call_isiT (by rfl) T.isi (by decide +kernel) (pa_cons (pv 0) (pa_cons (pe_tup (pa_cons (pbT (n := "tuple") T.tuple (by decide +kernel)) (pa_cons (pbT (n := "list") T.list (by decide +kernel)) pa_nil))) pa_nil)))), ?_⟩
    refine ⟨_, rfl, (by show 2 ≤ sizeLine; decide), fun t nt => ?_⟩
    have mono : ∀ {ty : Value}, TyX K H x ty → (ty = .type "list" ∨ ty = .type "tuple") → TyX K (upd H t (.tup [.ty "tuple", .ty "list"])) x ty := fun {ty} h _ => by
      cases h with
      | base b =>
        cases b with
        | non => exact .base .non
        | bl b => exact .base (.bl b)
        | int i => exact .base (.int i)
        | str z => exact .base (.str z)
        | flt z => exact .base (.flt z)
        | lst e => exact .base (.lst (Same.new nt _ _ e))
        | frz e => exact .base (.frz (Same.new nt _ _ e))
        | tup e => exact .base (.tup (Same.new nt _ _ e))
        | dK e => exact .base (.dK (Same.new nt _ _ e))
        | dT e => exact .base (.dT (Same.new nt _ _ e))
        | ins e c1 c2 c3 c4 c5 => exact .base (.ins (Same.new nt _ _ e) c1 c2 c3 c4 c5)
      | byt b => exact .byt b
      | set e => exact .set (Same.new nt _ _ e)
      | kList e c => exact .kList e c
      | kTuple e c => exact .kTuple e c
      | kDict e c => exact .kDict e c
      | fTuple e => exact .fTuple (Same.new nt _ _ e)
      | fDict e => exact .fDict (Same.new nt _ _ e)
    rcases hx with hx | hx
    · exact ⟨x, t, _, _, _, true, rfl, upd_same, .cons (ClsV.ty _) (.cons (ClsV.ty _) .nil), mono hx (.inl rfl), kit_row (.inl rfl), k _ (Same.new nt)⟩
    · exact ⟨x, t, _, _, _, true, rfl, upd_same, .cons (ClsV.ty _) (.cons (ClsV.ty _) .nil), mono hx (.inr rfl), kit_row (.inr rfl), k _ (Same.new nt)⟩
end
end Y
set_option Elab.async false
set_option linter.all false
set_option maxRecDepth 100000
set_option maxHeartbeats 4000000
namespace Y
open PySem L2
abbrev sIsCount : Stmt := top 2
/-- the type's name of a data -/
def tyNm : PyData → String
  | .none => "NoneType"
  | .bool _ => "bool"
  | .int _ => "int"
  | .str _ => "str"
  | .list _ => "list"
  | .tuple _ => "tuple"
  | .dict _ => "dict"
theorem dq_ty {K : PySem.W.Frag} {H : Hp} {d : PyData} {x : V} (h : Dq K H d x) : TyX K H x (.type (tyNm d)) := by
  cases h with
  | non => exact .base .non
  | bl b => exact .base (.bl b)
  | int i => exact .base (.int i)
  | str x => exact .base (.str x)
  | lst h _ => exact TyX.same (H' := H) h
  | tup h _ => exact ty_tup h
  | dct e => exact .base (.dK e)
def isI : PyData → Bool
  | .int _ => true
  | _ => false
def isCnt : PyData → Bool
  | .int z => decide (0 ≤ z)
  | _ => false
def spIsIntD (K : PySem.W.Frag) : Sp := fun vs H Q _ => ∃ (x : V) (d : PyData), vs = [x] ∧ Dq K H d x ∧ Q (.bl (isI d)) H
def spIsCountD (K : PySem.W.Frag) : Sp := fun vs H Q _ => ∃ (x : V) (d : PyData), vs = [x] ∧ Dq K H d x ∧ Q (.bl (isCnt d)) H
section
variable {P : Program} {w : World} {K : PySem.W.Frag} {mg : Str → Option Value} {base : Heap} {fInt : Addr}
theorem ok_isIntD {f : Addr} {fd : FuncData} (F : Fun K "is_integer" "is_integer" sIsInt f fd) (T : TI0 mg) : FnOk P w K mg base CX0 1 f fd ["value"] (spIsIntD K) := by
  refine F.ok scIsInt (fun vs H Q E h => ?_) (fun cdv A outer s H vs Q E hr h => ?_)
  · obtain ⟨z, d, rfl, _⟩ := h
    rfl
  · obtain ⟨x, d, rfl, hd, k⟩ := h
    refine ⟨_, pss_one (ps_ret (pe_and (pe_callB call_isi (by rfl) T.isi (by decide +kernel) (pa_cons (pv 0) (pa_cons (pbT (n := "int") T.int (by decide +kernel)) pa_nil))) (pe_one (pe_not (pe_callB call_isi (by rfl) T.isi (by decide +kernel) (pa_cons (pv 0) (pa_cons (pbT (n := "bool") T.bool (by decide +kernel)) pa_nil))))))), ?_⟩
    have ty := dq_ty hd
    cases d with
    | int z =>
      refine ⟨_, rfl, _, _, _, _, true, rfl, ClsV.ty _, ty, kit_ty (by show kitB _ _ = _; dsimp only [tyNm]; decide +kernel), true, rfl, iteT ?_⟩
      exact ⟨_, rfl, _, _, _, _, false, rfl, ClsV.ty _, ty, kit_ty (by show kitB _ _ = _; dsimp only [tyNm]; decide +kernel), false, rfl, k⟩
    | bool b =>
      refine ⟨_, rfl, _, _, _, _, true, rfl, ClsV.ty _, ty, kit_ty (by show kitB _ _ = _; dsimp only [tyNm]; decide +kernel), true, rfl, iteT ?_⟩
      exact ⟨_, rfl, _, _, _, _, true, rfl, ClsV.ty _, ty, kit_ty (by show kitB _ _ = _; dsimp only [tyNm]; decide +kernel), true, rfl, k⟩
    | none => exact ⟨_, rfl, _, _, _, _, false, rfl, ClsV.ty _, ty, kit_ty (by show kitB _ _ = _; dsimp only [tyNm]; decide +kernel), false, rfl, iteF k⟩
    | str _ => exact ⟨_, rfl, _, _, _, _, false, rfl, ClsV.ty _, ty, kit_ty (by show kitB _ _ = _; dsimp only [tyNm]; decide +kernel), false, rfl, iteF k⟩
    | list _ => exact ⟨_, rfl, _, _, _, _, false, rfl, ClsV.ty _, ty, kit_ty (by show kitB _ _ = _; dsimp only [tyNm]; decide +kernel), false, rfl, iteF k⟩
    | tuple _ => exact ⟨_, rfl, _, _, _, _, false, rfl, ClsV.ty _, ty, kit_ty (by show kitB _ _ = _; dsimp only [tyNm]; decide +kernel), false, rfl, iteF k⟩
    | dict _ => exact ⟨_, rfl, _, _, _, _, false, rfl, ClsV.ty _, ty, kit_ty (by show kitB _ _ = _; dsimp only [tyNm]; decide +kernel), false, rfl, iteF k⟩
theorem scIsCount : FnScope ["value"] ["value"] (defScope sIsCount) := ⟨rfl, rfl, rfl, by decide +kernel, rfl, by decide +kernel, by decide +kernel⟩
theorem ok_isCountD {f : Addr} {fd fdI : FuncData} (F : Fun K "is_count" "is_count" sIsCount f fd) (T : TI0 mg) (gI : mg "is_integer" = some (.ref fInt)) (FI : Fun K "is_integer" "is_integer" sIsInt fInt fdI) (bI : Binds K fdI ["value"] []) :
    FnOk P w K mg base CX0 2 f fd ["value"] (spIsCountD K) := by
  have GI : FnOk P w K mg base CX0 1 fInt fdI ["value"] (spIsIntD K) := ok_isIntD FI T
  refine F.ok scIsCount (fun vs H Q E h => ?_) (fun cdv A outer s H vs Q E hr h => ?_)
  · obtain ⟨z, d, rfl, _⟩ := h
    rfl
  · obtain ⟨x, d, rfl, hd, k⟩ := h
    refine ⟨_, pss_one (ps_ret (pe_and (pe_call GI hr (by rfl) gI FI.kp bI .nil pass0 (pa_cons (pv 0) pa_nil)) (pe_one (pe_cmpR op_ge (pv 0) pe_int (nomark _))))), ?_⟩
    refine ⟨_, rfl, x, d, rfl, hd, isI d, rfl, ?_⟩
    cases hd with
    | int z => exact iteT ⟨_, rfl, _, _, rfl, rfl, k⟩
    | _ => exact iteF k
end
end Y
set_option Elab.async false
set_option linter.all false
set_option maxRecDepth 100000
set_option maxHeartbeats 4000000
namespace Y
open PySem L2
abbrev sUnlike : Stmt := top 4
abbrev sCTies : Stmt := top 14
abbrev sCRings : Stmt := top 15
abbrev sYInit : Stmt := inClass (top 13) 0
/-! ### unlike places -/
def spUnlike (K : PySem.W.Frag) : Sp := fun vs H Q _ => ∃ (n : Nat) (y : V) (r : List Int), vs = [.int (n : Int), y] ∧ RowAt K H y r ∧ (∀ z ∈ r, 0 ≤ z ∧ z < n) ∧ r.Nodup ∧ r.length < 64 ∧ ∀ H', Same H H' → Q (.bl true) H'
structure TUn (K : PySem.W.Frag) (mg : Str → Option Value) (fInt fRow fUn fCnt : Addr) : Prop where
  i : TI0 mg
  len : mg "len" = none
  all : mg "all" = none
  set : mg "set" = none
  sorted : mg "sorted" = none
  enum : mg "enumerate" = none
  gInt : mg "is_integer" = some (.ref fInt)
  gRow : mg "is_row" = some (.ref fRow)
  gUn : mg "are_unlike_numbers" = some (.ref fUn)
  gCnt : mg "is_count" = some (.ref fCnt)
section
variable {P : Program} {w : World} {K : PySem.W.Frag} {mg : Str → Option Value} {base : Heap} {fInt fRow fUn fCnt : Addr}
theorem scUnlike : FnScope ["many", "value", "number"] ["many", "value"] (defScope sUnlike) := ⟨rfl, rfl, rfl, by decide +kernel, rfl, by decide +kernel, by decide +kernel⟩
theorem ok_unlike {f : Addr} {fd fdI fdR fdC : FuncData} (F : Fun K "are_unlike_numbers" "are_unlike_numbers" sUnlike f fd) (T : TUn K mg fInt fRow fUn fCnt) (FI : Fun K "is_integer" "is_integer" sIsInt fInt fdI) (bI : Binds K fdI ["value"] []) (FR : Fun K "is_row" "is_row" sIsRow fRow fdR) (bR : Binds K fdR ["value"] [])
    (FC : Fun K "is_count" "is_count" sIsCount fCnt fdC) (bC : Binds K fdC ["value"] []) : FnOk P w K mg base CX0 3 f fd ["many", "value"] (spUnlike K) := by
  have GC : FnOk P w K mg base CX0 2 fCnt fdC ["value"] (spIsCountD K) := ok_isCountD FC T.i T.gInt FI bI
  have GR : FnOk P w K mg base CX0 2 fRow fdR ["value"] (spIsRow K) := (ok_isRow FR T.i).mono (by decide)
  refine F.ok scUnlike (fun vs H Q E h => ?_) (fun cdv A outer s H vs Q E hr h => ?_)
  · obtain ⟨n, y, r, rfl, _⟩ := h
    rfl
  · obtain ⟨n, y, r, rfl, ⟨b, rfl, hb⟩, rb, rn, r64, k⟩ := h
    refine ⟨_, pss_cons (ps_if (PW.pt (pw_or (pt_not (pt_val (pe_call GR hr (by rfl) T.gRow FR.kp bR .nil pass0 (pa_cons (pv 1) pa_nil)))) (pw_or1 (pt_not (pt_val (pe_callB (cr_all rfl) (by rfl) T.all (by decide +kernel) (pa_cons (pe_lc (own := [("number", 2)]) (g := gName 2) (tt := tYes) rfl scUnlike.nd (pi_seqV (pv 1)) (blkOk_by (N := ["many", "value", "number"]) (sc := defScope sUnlike) (by decide +kernel))
          (fun _ _ _ _ _ => pg_name (i := 2) scUnlike.nd rfl (Or.inl rfl)) (fun _ _ _ _ _ => pts_nil) (fun _ _ _ _ _ => pe_and (pe_call GC hr (by rfl) T.gCnt FC.kp bC .nil pass0 (pa_cons (pv 2) pa_nil)) (pe_one (pe_cmpR op_lt (pv 2) (pv 0) (nomark _))))) pa_nil)))))) ) (pss_one (ps_ret pe_bl)) pss_nil)
      (pss_one (ps_ret (pe_cmpR op_eq (pe_lenSet2 rfl (by rfl) T.len (by rfl) T.set (pv 1)) (pe_callB call_len_seq (by rfl) T.len PySem.boot_len (pa_cons (pv 1) pa_nil)) (nomark _)))), ?_⟩
    refine ⟨_, rfl, _, rfl, hb.imp (TyX.same (H' := H)) ty_tup, fun H1 s1 => ⟨_, rfl, iteF ?_⟩⟩
    refine ⟨b, r.map V.int, H, rfl, hb, .of_same s1, fun J G w1 hG D hD => ?_⟩
    refine lcp_it (f := fun _ => V.bl true) (H1 := H1) w1 hD (by rw [List.length_map]; omega) (fun H' s' => hG H' ((Kp.of_same s1).trans s')) (fun i x0 H2 R hx s2 hR => ?_) ?_
    · obtain ⟨z, ez, rfl⟩ := ints_at hx
      obtain ⟨z0, z1⟩ := rb z (List.mem_of_getElem? ez)
      refine ⟨rfl, _, rfl, _, _, rfl, Dq.int z, true, by show V.bl (decide (0 ≤ z)) = _; rw [decide_eq_true z0], iteT ?_⟩
      refine ⟨_, rfl, _, rfl, _, _, rfl, rfl, ?_⟩
      show R (V.bl (decide (z < (n : Int)))) H2
      rw [decide_eq_true z1]
      exact hR
    · have s2 := s1.trans (Same.new (o := .lst ((r.map V.int).map fun _ => V.bl true)) hD)
      refine ⟨D, r.map fun _ => true, rfl, ?_, ?_⟩
      · rw [List.map_map, List.map_map] at *
        exact SqL.of upd_same
      have allT : (r.map fun _ => true).all id = true := by
        rw [List.all_map, List.all_eq_true]
        intro x _
        rfl
      rw [allT]
      refine ⟨_, rfl, iteF ?_⟩
      refine ⟨_, rfl, b, r, rfl, Same.seqA s2 hb, r64, rn, _, rfl, b, _, rfl, Same.seqA s2 hb, rfl, ?_⟩
      rw [List.length_map, decide_eq_true rfl]
      exact k _ s2
end
end Y
set_option linter.all false
set_option maxRecDepth 100000
set_option maxHeartbeats 1000000
namespace Y
open PySem L2
/-! ### the mathematics of turns -/
/-- the place of the ring's i-th, as an index -/
def pl (r : List Int) (i : Nat) : Nat := (r.getD i 0).toNat
theorem pl_inj {n : Nat} {r : List Int} (ok : RingOk n r) {i j : Nat} (hi : i < r.length) (hj : j < r.length) (h : pl r i = pl r j) : i = j := by
  obtain ⟨nd, rb, _, _⟩ := ok
  have h1 := rb _ (getD_mem hi)
  have h2 := rb _ (getD_mem hj)
  have e : r.getD i 0 = r.getD j 0 := by unfold pl at h; omega
  rw [List.getD_eq_getElem?_getD, List.getD_eq_getElem?_getD, List.getElem?_eq_getElem hi, List.getElem?_eq_getElem hj] at e
  have e' : r[i] = r[j] := e
  exact (List.getElem_inj nd).mp e'
theorem pl_lt {n : Nat} {r : List Int} (ok : RingOk n r) {i : Nat} (hi : i < r.length) : pl r i < n := by
  have h1 := ok.2.1 _ (getD_mem hi)
  unfold pl
  omega
theorem getD_set_eq {l : List Int} {i : Nat} {v : Int} (h : i < l.length) : (l.set i v).getD i 0 = v := by
  rw [List.getD_eq_getElem?_getD, List.getElem?_set_self h]
  rfl
theorem getD_set_ne {l : List Int} {i j : Nat} {v : Int} (h : i ≠ j) : (l.set i v).getD j 0 = l.getD j 0 := by
  rw [List.getD_eq_getElem?_getD, List.getD_eq_getElem?_getD, List.getElem?_set_ne h]
theorem mod_ne {n i j : Nat} (hi : i < n) (hj : j < n) (h : i ≠ j) : (i + 1) % n ≠ (j + 1) % n := by
  have e : ∀ k, k < n → (k + 1) % n = if k + 1 = n then 0 else k + 1 := fun k hk => by
    by_cases c : k + 1 = n
    · rw [if_pos c, c, Nat.mod_self]
    · rw [if_neg c, Nat.mod_eq_of_lt (by omega)]
  rw [e i hi, e j hj]
  split <;> split <;> omega
theorem turnTo_at {n : Nat} {r st : List Int} (ok : RingOk n r) (hs : st.length = n) : ∀ m, m ≤ r.length → (∀ j, j < m → (turnTo r st m).getD (pl r ((j + 1) % r.length)) 0 = st.getD (pl r j) 0) ∧
    (∀ p, (∀ j, j < m → pl r ((j + 1) % r.length) ≠ p) → (turnTo r st m).getD p 0 = st.getD p 0)
  | 0, _ => ⟨fun j h => absurd h (Nat.not_lt_zero _), fun p _ => rfl⟩
  | m + 1, hm => by
    obtain ⟨h1, h2⟩ := turnTo_at ok hs m (by omega)
    have hpos : 0 < r.length := by omega
    have hmod : ∀ j, (j + 1) % r.length < r.length := fun j => Nat.mod_lt _ hpos
    have e : turnTo r st (m + 1) = (turnTo r st m).set (pl r ((m + 1) % r.length)) (st.getD (pl r m) 0) := turnTo_succ r st m
    rw [e]
    refine ⟨fun j hj => ?_, fun p hp => ?_⟩
    · by_cases c : j = m
      · subst c
        exact getD_set_eq (by rw [turnTo_len, hs]; exact pl_lt ok (hmod j))
      · rw [getD_set_ne (fun z => mod_ne (by omega) (by omega) (Ne.symm c) (pl_inj ok (hmod m) (hmod j) z))]
        exact h1 j (by omega)
    · rw [getD_set_ne (hp m (by omega))]
      exact h2 p fun j hj => hp j (by omega)
/-- one turn: at the ring's i-th stands what stood at the one ahead of it -/
def turn1 (r st : List Int) : List Int := turnTo r st r.length
theorem turn1_len {r st : List Int} : (turn1 r st).length = st.length := turnTo_len _ _ _
theorem turn1_ring {n : Nat} {r st : List Int} (ok : RingOk n r) (hs : st.length = n) {i : Nat} (hi : i < r.length) : (turn1 r st).getD (pl r i) 0 = st.getD (pl r ((i + (r.length - 1)) % r.length)) 0 := by
  have h3 := ok.2.2.1
  by_cases c : i = 0
  · subst c
    have := (turnTo_at ok hs r.length (Nat.le_refl _)).1 (r.length - 1) (by omega)
    rw [show r.length - 1 + 1 = r.length by omega, Nat.mod_self] at this
    rw [Nat.zero_add, Nat.mod_eq_of_lt (by omega)]
    exact this
  · have := (turnTo_at ok hs r.length (Nat.le_refl _)).1 (i - 1) (by omega)
    rw [show i - 1 + 1 = i by omega, Nat.mod_eq_of_lt hi] at this
    have e : (i + (r.length - 1)) % r.length = i - 1 := by
      rw [show i + (r.length - 1) = (i - 1) + r.length by omega, Nat.add_mod_right, Nat.mod_eq_of_lt (by omega)]
    rw [e]
    exact this
theorem turn1_off {n : Nat} {r st : List Int} (ok : RingOk n r) (hs : st.length = n) {p : Nat} (hp : ∀ i, i < r.length → pl r i ≠ p) : (turn1 r st).getD p 0 = st.getD p 0 :=
  (turnTo_at ok hs r.length (Nat.le_refl _)).2 p fun j hj => hp _ (Nat.mod_lt _ (by have := ok.2.2.1; omega))
def turnN (r : List Int) : Nat → List Int → List Int
  | 0, st => st
  | m + 1, st => turnN r m (turn1 r st)
theorem turnN_len {r : List Int} : ∀ {m : Nat} {st : List Int}, (turnN r m st).length = st.length
  | 0, _ => rfl
  | m + 1, st => by show (turnN r m (turn1 r st)).length = _; rw [turnN_len, turn1_len]
theorem turnN_ring {n : Nat} {r : List Int} (ok : RingOk n r) : ∀ {m : Nat} {st : List Int}, st.length = n → ∀ {i : Nat}, i < r.length → (turnN r m st).getD (pl r i) 0 = st.getD (pl r ((i + m * (r.length - 1)) % r.length)) 0
  | 0, st, _, i, hi => by rw [Nat.zero_mul, Nat.add_zero, Nat.mod_eq_of_lt hi]; rfl
  | m + 1, st, hs, i, hi => by
    have hpos : 0 < r.length := by omega
    show (turnN r m (turn1 r st)).getD (pl r i) 0 = _
    rw [turnN_ring ok (by rw [turn1_len, hs]) hi, turn1_ring ok hs (Nat.mod_lt _ hpos), Nat.mod_add_mod]
    congr 3
    rw [Nat.succ_mul]
    omega
theorem turnN_off {n : Nat} {r : List Int} (ok : RingOk n r) : ∀ {m : Nat} {st : List Int}, st.length = n → ∀ {p : Nat}, (∀ i, i < r.length → pl r i ≠ p) → (turnN r m st).getD p 0 = st.getD p 0
  | 0, _, _, _, _ => rfl
  | m + 1, st, hs, p, hp => by
    show (turnN r m (turn1 r st)).getD p 0 = _
    rw [turnN_off ok (by rw [turn1_len, hs]) hp, turn1_off ok hs hp]
/-- turned as often as the ring is long, all stands as it stood -/
theorem turnN_all {n : Nat} {r st : List Int} (ok : RingOk n r) (hs : st.length = n) : turnN r r.length st = st := by
  refine List.ext_getElem? fun p => ?_
  by_cases hp : p < st.length
  · have hp' : p < (turnN r r.length st).length := by rw [turnN_len]; exact hp
    have g : (turnN r r.length st).getD p 0 = st.getD p 0 := by
      by_cases c : ∃ i, i < r.length ∧ pl r i = p
      · obtain ⟨i, hi, rfl⟩ := c
        rw [turnN_ring ok hs hi, Nat.add_mul_mod_self_left, Nat.mod_eq_of_lt hi]
      · exact turnN_off ok hs fun i hi z => c ⟨i, hi, z⟩
    rw [List.getD_eq_getElem?_getD, List.getD_eq_getElem?_getD, List.getElem?_eq_getElem hp', List.getElem?_eq_getElem hp] at g
    rw [List.getElem?_eq_getElem hp', List.getElem?_eq_getElem hp]
    exact congrArg some g
  · rw [List.getElem?_eq_none (by rw [turnN_len]; omega), List.getElem?_eq_none (by omega)]
end Y
set_option linter.all false
set_option maxRecDepth 100000
set_option maxHeartbeats 1000000
namespace Y
open PySem L2
/-! ### what is taken back stands as it stood -/
theorem play_app {rs : List (List Int)} : ∀ {l l2 : List Mv} {st : List Int}, playMvs rs st (l ++ l2) = playMvs rs (playMvs rs st l) l2
  | [], _, _ => rfl
  | a :: l, l2, st => play_app (l := l) (l2 := l2) (st := stepMv rs st a)
theorem can_app {n : Nat} {ts : List (Int × Int)} {rs : List (List Int)} : ∀ {l l2 : List Mv} {st : List Int}, CanAll n ts rs st l → CanAll n ts rs (playMvs rs st l) l2 → CanAll n ts rs st (l ++ l2)
  | [], _, _, _, h => h
  | a :: l, l2, st, h, g => ⟨h.1, can_app (l := l) h.2 g⟩
theorem can_split {n : Nat} {ts : List (Int × Int)} {rs : List (List Int)} {m : Mv} : ∀ {l : List Mv} {st : List Int}, CanAll n ts rs st (l ++ [m]) → CanAll n ts rs st l ∧ CanMv n ts rs (playMvs rs st l) m
  | [], st, h => ⟨trivial, h.1⟩
  | a :: l, st, h => ⟨⟨h.1, (can_split (l := l) h.2).1⟩, (can_split (l := l) h.2).2⟩
theorem play_turns {rs : List (List Int)} {k : Int} : ∀ {m : Nat} {st : List Int}, playMvs rs st (List.replicate m (.turn k)) = turnN (rs.getD k.toNat []) m st
  | 0, _ => rfl
  | m + 1, st => play_turns (m := m) (st := stepMv rs st (.turn k))
theorem can_turns {n : Nat} {ts : List (Int × Int)} {rs : List (List Int)} {k : Int} (h : 0 ≤ k ∧ k < rs.length) : ∀ {m : Nat} {st : List Int}, CanAll n ts rs st (List.replicate m (.turn k))
  | 0, _ => trivial
  | m + 1, _ => ⟨h, can_turns h⟩
theorem back_one {n : Nat} {ts : List (Int × Int)} {rs : List (List Int)} {st : List Int} {m : Mv} {x : List Mv} (tok : ∀ t ∈ ts, TieOk n t) (rok : ∀ r ∈ rs, RingOk n r) (hs : st.length = n) (c : CanMv n ts rs st m) (h : backOne ts rs m = some x) :
    CanAll n ts rs (stepMv rs st m) x ∧ playMvs rs (stepMv rs st m) x = st := by
  cases m with
  | turn k =>
    obtain ⟨k0, k1⟩ := c
    have hk : k.toNat < rs.length := by omega
    have e : rs.getD k.toNat [] = rs[k.toNat] := by rw [List.getD_eq_getElem?_getD, List.getElem?_eq_getElem hk]; rfl
    have ok : RingOk n (rs.getD k.toNat []) := by rw [e]; exact rok _ (List.getElem_mem hk)
    cases Option.some.inj h
    refine ⟨can_turns ⟨k0, k1⟩, ?_⟩
    rw [play_turns]
    have h3 := ok.2.2.1
    have all := turnN_all ok hs
    unfold ringLen
    generalize hr : rs.getD k.toNat [] = r at *
    have : r.length = (r.length - 1) + 1 := by omega
    rw [this] at all
    show turnN r (r.length - 1) (turnTo (rs.getD k.toNat []) st (rs.getD k.toNat []).length) = st
    rw [hr]
    exact all
  | slide a b =>
    obtain ⟨hin, ⟨a0, a1, b0, b1, ab⟩, ga, gb⟩ := c
    have h' : (if (b, a) ∈ ts then some [Mv.slide b a] else none) = some x := h
    by_cases hba : (b, a) ∈ ts
    · rw [if_pos hba] at h'
      cases Option.some.inj h'
      have na : a.toNat ≠ b.toNat := by
        intro z
        exact ab (by show a = b; have : (0 : Int) ≤ a := a0; have : (0 : Int) ≤ b := b0; omega)
      have la : a.toNat < st.length := by have : a < n := a1; have : (0 : Int) ≤ a := a0; omega
      have lb : b.toNat < st.length := by have : b < n := b1; have : (0 : Int) ≤ b := b0; omega
      have e1 : gAt (stepMv rs st (.slide a b)) b = gAt st a := getD_set_eq (by rw [List.length_set]; exact lb)
      have e2 : gAt (stepMv rs st (.slide a b)) a = 0 := by
        show ((st.set a.toNat 0).set b.toNat (gAt st a)).getD a.toNat 0 = 0
        rw [getD_set_ne (Ne.symm na), getD_set_eq la]
      refine ⟨⟨⟨hba, tok _ hba, by rw [e1]; exact ga, e2⟩, trivial⟩, ?_⟩
      show ((stepMv rs st (.slide a b)).set b.toNat 0).set a.toNat (gAt (stepMv rs st (.slide a b)) b) = st
      rw [e1]
      show ((((st.set a.toNat 0).set b.toNat (gAt st a)).set b.toNat 0).set a.toNat (gAt st a)) = st
      refine List.ext_getElem? fun p => ?_
      by_cases pa : a.toNat = p
      · subst pa
        rw [List.getElem?_set_self (by simp only [List.length_set]; exact la), List.getElem?_eq_getElem la]
        unfold gAt
        rw [List.getD_eq_getElem?_getD, List.getElem?_eq_getElem la]
        rfl
      · rw [List.getElem?_set_ne pa]
        by_cases pb : b.toNat = p
        · subst pb
          rw [List.getElem?_set_self (by simp only [List.length_set]; exact lb), List.getElem?_eq_getElem lb]
          unfold gAt at gb
          rw [List.getD_eq_getElem?_getD, List.getElem?_eq_getElem lb] at gb
          exact congrArg some gb.symm
        · rw [List.getElem?_set_ne pb, List.getElem?_set_ne pb, List.getElem?_set_ne pa]
    · rw [if_neg hba] at h'
      cases h'
theorem back_all {n : Nat} {ts : List (Int × Int)} {rs : List (List Int)} {st : List Int} (tok : ∀ t ∈ ts, TieOk n t) (rok : ∀ r ∈ rs, RingOk n r) (hs : st.length = n) : ∀ (l : List Mv) (bs : List Mv), CanAll n ts rs st l.reverse → backs ts rs l = some bs →
    CanAll n ts rs (playMvs rs st l.reverse) bs ∧ playMvs rs (playMvs rs st l.reverse) bs = st
  | [], bs, _, h => by
    cases Option.some.inj h
    exact ⟨trivial, rfl⟩
  | m :: l, bs, c, h => by
    rw [List.reverse_cons] at c ⊢
    obtain ⟨c1, c2⟩ := can_split c
    have h' : ((backOne ts rs m).bind fun x => (backs ts rs l).map (x ++ ·)) = some bs := h
    cases h1 : backOne ts rs m with
    | none => rw [h1] at h'; cases h'
    | some x =>
      rw [h1] at h'
      cases h2 : backs ts rs l with
      | none => rw [h2] at h'; cases h'
      | some y =>
        rw [h2] at h'
        cases Option.some.inj h'
        obtain ⟨i1, i2⟩ := back_all tok rok hs l y c1 h2
        obtain ⟨b1, b2⟩ := back_one tok rok (by rw [play_len, hs]) c2 h1
        rw [play_snoc]
        refine ⟨can_app b1 (by rw [b2]; exact i1), ?_⟩
        rw [play_app, b2]
        exact i2
end Y
set_option Elab.async false
set_option linter.all false
set_option maxRecDepth 100000
set_option maxHeartbeats 4000000
namespace Y
open PySem L2
abbrev sIsMove : Stmt := top 17
/-- what the yard's class must keep -/
structure YCls (K : PySem.W.Frag) (C : Addr) : Prop where
  c : Cls K C
  p : NoAttr K C "places"
  t : NoAttr K C "ties"
  r : NoAttr K C "rings"
/-- at x: a yard made of n places, ties ts, rings rs -/
def YObj (K : PySem.W.Frag) (H : Hp) (x : Addr) (n : Nat) (ts : List (Int × Int)) (rs : List (List Int)) : Prop := ∃ (C dx a e : Addr) (fs : List (Str × V)) (ys zs : List V), H x = some (.ins C dx fs) ∧ YCls K C ∧ fs.lookup ("places" : Str) = some (.int (n : Int)) ∧ fs.lookup ("ties" : Str) = some (.ref a) ∧ fs.lookup ("rings" : Str) = some (.ref e) ∧
  SqT K H a ys ∧ Paired (TieAt K H) ys ts ∧ SqT K H e zs ∧ Paired (RingAt K H) zs rs
theorem YObj.kp {K : PySem.W.Frag} {H H' : Hp} {x : Addr} {n : Nat} {ts : List (Int × Int)} {rs : List (List Int)} (h : YObj K H x n ts rs) (s : Kp H H') : YObj K H' x n ts rs := by
  obtain ⟨C, dx, a, e, fs, ys, zs, h1, h2, h3, h4, h5, h6, h7, h8, h9⟩ := h
  exact ⟨C, dx, a, e, fs, ys, zs, s _ _ h1 (by intro _ z; cases z), h2, h3, h4, h5, s.seqT h6, ties_kp h7 s, s.seqT h8, rings_kp h9 s⟩
/-- a move of this yard -/
def MvIn (ts : List (Int × Int)) (rs : List (List Int)) : Mv → Prop
  | .slide a b => (a, b) ∈ ts
  | .turn k => 0 ≤ k ∧ k < rs.length
def spIsMove (K : PySem.W.Frag) : Sp := fun vs H Q _ => ∃ (x : Addr) (y : V) (n : Nat) (ts : List (Int × Int)) (rs : List (List Int)) (m : Mv), vs = [.ref x, y] ∧ YObj K H x n ts rs ∧ MvAt K H y m ∧ MvIn ts rs m ∧ ∀ H', Same H H' → Q (.bl true) H'
structure TN (K : PySem.W.Frag) (mg : Str → Option Value) (fInt : Addr) : Prop where
  i : TI0 mg
  str : mg "str" = none
  len : mg "len" = none
  all : mg "all" = none
  gInt : mg "is_integer" = some (.ref fInt)
section
variable {P : Program} {w : World} {K : PySem.W.Frag} {mg : Str → Option Value} {base : Heap} {fInt : Addr}
theorem scIsMove : FnScope ["yard", "value", "number"] ["yard", "value"] (defScope sIsMove) := ⟨rfl, rfl, rfl, by decide +kernel, rfl, by decide +kernel, by decide +kernel⟩
theorem ok_isMove {f : Addr} {fd fdI : FuncData} (F : Fun K "is_move" "is_move" sIsMove f fd) (T : TN K mg fInt) (FI : Fun K "is_integer" "is_integer" sIsInt fInt fdI) (bI : Binds K fdI ["value"] []) : FnOk P w K mg base CX0 2 f fd ["yard", "value"] (spIsMove K) := by
  have GI : FnOk P w K mg base CX0 1 fInt fdI ["value"] spIsInt := ok_isInt FI T.i
  refine F.ok scIsMove (fun vs H Q E h => ?_) (fun cdv A outer s H vs Q E hr h => ?_)
  · obtain ⟨x, y, n, ts, rs, m, rfl, _⟩ := h
    rfl
  · obtain ⟨x, y, n, ts, rs, m, rfl, hy, ⟨b, rfl, hm⟩, hin, k⟩ := h
    have hu := hr.units
    refine ⟨_, pss_cons (ps_if (PW.pt (pw_or (pt_not (pt_val (pe_callB call_isi (by rfl) T.i.isi (by decide +kernel) (pa_cons (pv 1) (pa_cons (pbT (n := "tuple") T.i.tuple (by decide +kernel)) pa_nil)))))
        (pw_or (pt_cmpR op_lt (pe_callB call_len_seq (by rfl) T.len PySem.boot_len (pa_cons (pv 1) pa_nil)) pe_int (nomark _)) (pw_or1 (pt_not (pt_val (pe_callB call_isi (by rfl) T.i.isi (by decide +kernel) (pa_cons (pe_ix ix_tup (pv 1) pe_int (fun _ _ => rfl)) (pa_cons (pbT (n := "str") T.str (by decide +kernel)) pa_nil))))))))) (pss_one (ps_ret pe_bl)) pss_nil)
      (pss_cons (ps_if (pt_not (pt_val (pe_callB (cr_all rfl) (by rfl) T.all (by decide +kernel) (pa_cons (pe_lc (own := [("number", 2)]) (g := gName 2) (tt := tYes) rfl scIsMove.nd (pi_tup (pe_slice sl_tup (pv 1) (po_some pe_int) po_none)) (blkOk_by (N := ["yard", "value", "number"]) (sc := defScope sIsMove) (by decide +kernel))
          (fun _ _ _ _ _ => pg_name (i := 2) scIsMove.nd rfl (Or.inl rfl)) (fun _ _ _ _ _ => pts_nil) (fun _ _ _ _ _ => pe_call GI hr (by rfl) T.gInt FI.kp bI .nil pass0 (pa_cons (pv 2) pa_nil))) pa_nil)))) (pss_one (ps_ret pe_bl)) pss_nil)
      (pss_cons (ps_if (pt_cmpR op_eq (pe_ix ix_tup (pv 1) pe_int (fun _ _ => rfl)) pe_str (nomark _)) (pss_one (ps_ret (pe_cmpR (op_tieIn hu) (pe_slice sl_tup (pv 1) (po_some pe_int) po_none) (pe_fld (pv 0) rfl) (by rfl)))) pss_nil)
      (pss_one (ps_ret (pe_and (pe_cmpR op_eq (pe_ix ix_tup (pv 1) pe_int (fun _ _ => rfl)) pe_str (nomark _)) (pe_and (pe_cmpR op_eq (pe_callB call_len_seq (by rfl) T.len PySem.boot_len (pa_cons (pv 1) pa_nil)) pe_int (nomark _))
        (pe_one (pe_chain op_le op_lt pe_int (pe_ix ix_tup (pv 1) pe_int (fun _ _ => rfl)) (pe_callB call_len_seq (by rfl) T.len PySem.boot_len (pa_cons (pe_fld (pv 0) rfl) pa_nil)))))))))), ?_⟩
    obtain ⟨C, dx, a, e, fs, ys, zs, hx, yc, lp, lt, lr, ha, pa, he, pe⟩ := hy
    -- the numbers behind the word
    have nums : ∃ (wd : Str) (ns : List Int), m.vs = .str wd :: ns.map V.int ∧ 1 ≤ ns.length ∧ ns.length ≤ 2 := by
      cases m with
      | slide u v => exact ⟨_, [u, v], rfl, by simp, by simp⟩
      | turn u => exact ⟨_, [u], rfl, by simp, by simp⟩
    obtain ⟨wd, ns, em, l1, l2⟩ := nums
    have hm' := hm
    rw [em] at hm'
    refine ⟨_, rfl, _, _, _, _, true, rfl, ClsV.ty _, ty_tup hm', kit_ty (by decide +kernel), _, rfl, ?_⟩
    refine iteF ?_
    refine ⟨_, rfl, b, _, rfl, .inr hm', _, _, rfl, rfl, _, rfl, ?_⟩
    refine ifT (fun h => by
      have h' : (((V.str wd :: ns.map V.int).length : Nat) : Int) < 2 := of_decide_eq_true h
      rw [List.length_cons, List.length_map] at h'
      omega) (fun _ => ?_)
    refine ⟨_, rfl, b, _, 0, _, rfl, rfl, hm', atI_nat (j := 0) rfl, _, _, _, _, true, rfl, ClsV.ty _, .base (TyOf.str _), kit_ty (by decide +kernel), _, rfl, ?_⟩
    refine iteF ?_
    have cut1 : cutV (V.str wd :: ns.map V.int) (some 1) none = ns.map V.int := by
      unfold cutV
      have e1 : HT.sIx (V.str wd :: ns.map V.int).length 0 (some 1) = 1 := by
        rw [show (some (1 : Int)) = some ((1 : Nat) : Int) from rfl, HT.sIx_nat, List.length_cons]
        omega
      rw [e1, HT.sIx_none, List.drop_one, List.tail_cons]
      exact List.take_of_length_le (by rw [List.length_map, List.length_cons, List.length_map]; omega)
    have ncut : ¬ (HT.sIx (V.str wd :: ns.map V.int).length 0 (some 1) = 0 ∧ HT.sIx (V.str wd :: ns.map V.int).length (V.str wd :: ns.map V.int).length none = (V.str wd :: ns.map V.int).length) := by
      rintro ⟨h, _⟩
      rw [show (some (1 : Int)) = some ((1 : Nat) : Int) from rfl, HT.sIx_nat, List.length_cons] at h
      omega
    refine ⟨_, rfl, _, rfl, b, _, rfl, hm', ncut, fun p np => ?_⟩
    rw [cut1]
    have s1 := Same.new (o := .tup (ns.map V.int)) np
    refine ⟨p, rfl, ⟨_, SqT.of upd_same⟩, fun D hD => ?_⟩
    refine lcp_tup (f := fun _ => V.bl true) (xs := ns.map V.int) hD (by rw [List.length_map]; omega) (SqT.of upd_same) (fun H' s' => SqT.of (s' _ _ upd_same)) (fun i x0 H2 R hx2 s2 hR => ?_) ?_
    · obtain ⟨z, _, rfl⟩ := ints_at hx2
      exact ⟨rfl, _, rfl, z, rfl, hR⟩
    · have s2 := s1.trans (Same.new (o := .lst ((ns.map V.int).map fun _ => V.bl true)) hD)
      refine ⟨D, ns.map fun _ => true, rfl, ?_, ?_⟩
      · rw [List.map_map, List.map_map] at *
        exact SqL.of upd_same
      have allT : (ns.map fun _ => true).all id = true := by
        rw [List.all_map, List.all_eq_true]
        intro x _
        rfl
      rw [allT]
      refine ⟨_, rfl, ?_⟩
      refine iteF ?_
      have hm2 := Same.seqT s2 hm
      have hx2 := s2 _ _ hx
      cases m with
      | slide u v =>
        have hin' : (u, v) ∈ ts := hin
        refine ⟨_, rfl, b, _, 0, _, rfl, rfl, hm2, atI_nat (j := 0) rfl, rfl, _, rfl, ?_⟩
        refine iteT ?_
        refine ⟨_, rfl, _, rfl, b, _, rfl, hm2, (by
          rintro ⟨h, _⟩
          have h' : HT.sIx 3 0 (some ((1 : Nat) : Int)) = 0 := h
          rw [HT.sIx_nat] at h'
          omega), fun p2 np2 => ?_⟩
        have s3 := s2.trans (Same.new (o := .tup [.int u, .int v]) np2)
        refine ⟨_, rfl, x, C, dx, fs, _, rfl, s3 _ _ hx, yc.c, yc.t, lt, a, ys, ts, (u, v), rfl, Same.seqT s3 ha, ties_kp pa (.of_same s3), ⟨p2, rfl, SqT.of upd_same⟩, ?_⟩
        rw [if_neg (by decide), decide_eq_true hin']
        exact k _ s3
      | turn kk =>
        obtain ⟨k0, k1⟩ := hin
        have hz := Paired.length pe
        refine ⟨_, rfl, b, _, 0, _, rfl, rfl, hm2, atI_nat (j := 0) rfl, rfl, _, rfl, ?_⟩
        refine iteF ?_
        refine ⟨_, rfl, b, _, 0, _, rfl, rfl, hm2, atI_nat (j := 0) rfl, rfl, true, rfl, iteT ?_⟩
        refine ⟨_, rfl, b, _, rfl, .inr hm2, rfl, true, rfl, iteT ?_⟩
        refine ⟨_, rfl, b, _, 1, _, rfl, rfl, hm2, atI_nat (j := 1) rfl, ?_⟩
        refine ⟨_, _, rfl, rfl, _, rfl, ?_⟩
        rw [decide_eq_true k0]
        refine iteT ?_
        refine ⟨_, rfl, x, C, dx, fs, _, rfl, hx2, yc.c, yc.r, lr, e, zs, rfl, .inr (Same.seqT s2 he), _, _, rfl, rfl, ?_⟩
        show Q (V.bl (decide (kk < ((zs.length : Nat) : Int)))) _
        rw [decide_eq_true (show kk < ((zs.length : Nat) : Int) by rw [hz]; exact k1)]
        exact k _ s2
end
end Y
set_option Elab.async false
set_option linter.all false
set_option maxRecDepth 100000
set_option maxHeartbeats 4000000
namespace Y
open PySem L2
/-! ### the ties, checked -/
def row2 (t : Int × Int) : List Int := [t.1, t.2]
theorem row2_inj {t u : Int × Int} (h : row2 t = row2 u) : t = u := by
  injection h with h1 h2
  injection h2 with h2 _
  exact Prod.ext h1 h2
theorem seqT_offE {K : PySem.W.Frag} {H : Hp} {D b : Addr} {xs : List V} {o u : HO} (h : SqT K H b xs) (e : H D = some u) (n1 : ∀ ys, u ≠ .tup ys) (n2 : ∀ o ys, u ≠ .frz o (.tup ys)) : SqT K (upd H D o) b xs := by
  rcases h with (h | ⟨o', h⟩) | h
  · exact .inl (.inl (by rw [upd_ne (fun z => n1 xs (by rw [z, e] at h; exact Option.some.inj h))]; exact h))
  · exact .inl (.inr ⟨o', by rw [upd_ne (fun z => n2 o' xs (by rw [z, e] at h; exact Option.some.inj h))]; exact h⟩)
  · exact .inr h
theorem seqT_offS {K : PySem.W.Frag} {P : Program} {w : World} {H : Hp} {D b a : Addr} {xs : List V} {o : HO} {L : List (Addr × List Int)} (h : SqT K H b xs) (e : H D = some (SetTO P w a L)) : SqT K (upd H D o) b xs :=
  seqT_offE h e (fun ys z => by unfold SetTO at z; cases z) (fun o ys z => by unfold SetTO at z; cases z)
theorem ties_uniq {n : Nat} {A : List (List Int)} {ts : List (Int × Int)} (h64 : n ≤ 60) (p : A.Perm (ts.map row2)) (ok : TiesOk n ts) (pw : A.Pairwise fun a b => TS.code 64 a ≤ TS.code 64 b) : A = ts.map row2 := by
  refine List.Perm.eq_of_pairwise (le := fun a b => TS.code 64 a ≤ TS.code 64 b) (fun a b ha hb h1 h2 => ?_) pw ?_ p
  · obtain ⟨t, ht, rfl⟩ := List.mem_map.mp (p.mem_iff.mp ha)
    obtain ⟨u, hu, rfl⟩ := List.mem_map.mp hb
    obtain ⟨a0, a1, b0, b1, _⟩ := ok.2.1 t ht
    obtain ⟨c0, c1, d0, d1, _⟩ := ok.2.1 u hu
    have e1 : TS.code 64 (row2 t) = t.1 * 64 + t.2 := code_pair _ _
    have e2 : TS.code 64 (row2 u) = u.1 * 64 + u.2 := code_pair _ _
    rw [e1, e2] at h1 h2
    have f1 : t.1 = u.1 := by omega
    have f2 : t.2 = u.2 := by omega
    rw [Prod.ext f1 f2]
  · rw [List.pairwise_map]
    exact ok.2.2
theorem ties_of {K : PySem.W.Frag} {H : Hp} : ∀ {L : List (Addr × List Int)} {ts : List (Int × Int)}, L.map (·.2) = ts.map row2 → (∀ p ∈ L, SqT K H p.1 (p.2.map V.int)) → Paired (TieAt K H) (L.map fun q => V.ref q.1) ts
  | [], [], _, _ => .nil
  | [], _ :: _, e, _ => by cases e
  | _ :: _, [], e, _ => by cases e
  | p :: L, t :: ts, e, h => by
    injection e with e1 e2
    refine .cons ⟨p.1, rfl, ?_⟩ (ties_of e2 fun q hq => h q (List.mem_cons_of_mem _ hq))
    have := h p List.mem_cons_self
    rw [show p.2 = row2 t from e1] at this
    exact this
theorem row2_ok {n : Nat} {t : Int × Int} (h : TieOk n t) : (∀ z ∈ row2 t, 0 ≤ z ∧ z < n) ∧ (row2 t).Nodup := by
  obtain ⟨a0, a1, b0, b1, ne⟩ := h
  refine ⟨fun z hz => ?_, ?_⟩
  · rcases List.mem_cons.mp hz with rfl | hz
    · exact ⟨a0, a1⟩
    · rw [List.mem_singleton.mp hz]; exact ⟨b0, b1⟩
  · show [t.1, t.2].Nodup
    simp [ne]
def spCTies (K : PySem.W.Frag) : Sp := fun vs H Q _ => ∃ (n : Nat) (z : Addr) (zs : List V) (ps ts : List (Int × Int)), vs = [.int (n : Int), .ref z] ∧ SqA K H z zs ∧ Paired (RowAt K H) zs (ps.map row2) ∧ ps.Perm ts ∧ TiesOk n ts ∧ n ≤ 60 ∧ ts.length ≤ 60 ∧
  ∀ t ys H', H' t = some (.tup ys) → Paired (TieAt K H') ys ts → Same H H' → Q (.ref t) H'
section
variable {P : Program} {w : World} {K : PySem.W.Frag} {mg : Str → Option Value} {base : Heap} {fInt fRow fUn fCnt : Addr}
theorem scCTies : FnScope ["places", "ties", "seen", "tie"] ["places", "ties"] (defScope sCTies) := ⟨rfl, rfl, rfl, by decide +kernel, rfl, by decide +kernel, by decide +kernel⟩
theorem ok_cties {f : Addr} {fd fdR fdU : FuncData} (F : Fun K "checked_ties" "checked_ties" sCTies f fd) (T : TUn K mg fInt fRow fUn fCnt) (FR : Fun K "is_row" "is_row" sIsRow fRow fdR) (bR : Binds K fdR ["value"] [])
    (GU : FnOk P w K mg base CX0 3 fUn fdU ["many", "value"] (spUnlike K)) (FU : Fun K "are_unlike_numbers" "are_unlike_numbers" sUnlike fUn fdU) (bU : Binds K fdU ["many", "value"] []) :
    FnOk P w K mg base CX0 4 f fd ["places", "ties"] (spCTies K) := by
  have GR : FnOk P w K mg base CX0 1 fRow fdR ["value"] (spIsRow K) := ok_isRow FR T.i
  refine F.ok scCTies (fun vs H Q E h => ?_) (fun cdv A outer s H vs Q E hr h => ?_)
  · obtain ⟨n, z, zs, ps, ts, rfl, _⟩ := h
    rfl
  · obtain ⟨n, z, zs, ps, ts, rfl, hz, pz, pm, ok, n60, t60, k⟩ := h
    have hu := hr.units
    have hr1 : Room 1 _ := hr.mono (by decide)
    refine ⟨_, pss_cons (ps_if (pt_not (pt_val (pe_call GR hr1 (by rfl) T.gRow FR.kp bR .nil pass0 (pa_cons (pv 1) pa_nil)))) (pss_one ps_never) pss_nil)
      (pss_cons (ps_set (i := 2) scCTies.nd rfl (Or.inl rfl) (pe_callTy0 cr_set0T (by rfl) T.set (by decide +kernel)))
      (pss_cons (ps_for PassesOwn.never rfl (pi_seqV (pv 1)) (pg_name (i := 3) scCTies.nd rfl (Or.inl rfl))
        (pss_cons (ps_if (PW.pt (pw_or (pt_not (pt_val (pe_call GU hr (by rfl) T.gUn FU.kp bU .nil pass0 (pa_cons (pv 0) (pa_cons (pv 3) pa_nil))))) (pw_or (pt_cmpR op_ne (pe_callB call_len_seq (by rfl) T.len PySem.boot_len (pa_cons (pv 3) pa_nil)) pe_int (nomark _))
            (pw_or1 (pt_cmpR (op_inSetT hu) (pe_callTy call_tuple_any (by rfl) T.i.tuple (by decide +kernel) (pa_cons (pv 3) pa_nil)) (pv 2) (by rfl)))))) (pss_one ps_never) pss_nil)
        (pss_one (ps_expr (pe_saddT hu (pv 2) (pa_cons (pe_callTy call_tuple_any (by rfl) T.i.tuple (by decide +kernel) (pa_cons (pv 3) pa_nil)) pa_nil))))))
      (pss_one (ps_ret (pe_callTy call_tuple_of (by rfl) T.i.tuple (by decide +kernel) (pa_cons (pe_callB (cr_sortedT rfl) (by rfl) T.sorted (by decide +kernel) (pa_cons (pv 2) pa_nil)) pa_nil)))))), ?_⟩
    refine ⟨_, rfl, _, rfl, hz.imp (TyX.same (H' := H)) ty_tup, fun H1 s1 => ⟨_, rfl, iteF ?_⟩⟩
    refine ⟨rfl, fun sn nsn => ?_⟩
    have nsH : H sn = none := s1.free nsn
    have S0 : Same H (upd H1 sn (SetTO P w sn [])) := s1.trans (Same.new nsn)
    have hlen : zs.length = ps.length := by rw [Paired.length pz, List.length_map]
    have pl := pm.length_eq
    have nd : (ps.map row2).Nodup := by
      refine List.Pairwise.map _ (fun a b (h : a ≠ b) e => h (row2_inj e)) ?_
      exact (pm.nodup_iff).mpr ok.1
    refine ⟨z, zs, H, rfl, hz, .of_same S0, fun J G w1 hG => ?_⟩
    refine for_it w1 (fun i σ H' => ∃ (v : Option V) (L : List (Addr × List Int)), σ = [some (.int (n : Int)), some (.ref z), some (.ref sn), v] ∧ H' sn = some (SetTO P w sn L) ∧ (L.map (·.2)).Perm ((ps.map row2).take i) ∧ (∀ p ∈ L, SqT K H' p.1 (p.2.map V.int)) ∧ Same H H')
      ⟨none, [], rfl, upd_same, .refl _, (fun p hp => by cases hp), S0⟩ (fun i σ H' _ ⟨_, _, _, _, _, _, s⟩ => hG H' (.of_same s)) ?_ ?_
    · rintro i x σ H2 H2' hi ⟨v, L, rfl, eS, pL, hL, s2⟩ ⟨rfl, hx⟩
      obtain ⟨r, er, hrow⟩ := par_get pz hx
      obtain ⟨t, et, rfl⟩ : ∃ t, ps[i]? = some t ∧ row2 t = r := by
        rw [List.getElem?_map] at er
        cases e : ps[i]? with
        | none => rw [e] at er; cases er
        | some t => rw [e] at er; exact ⟨t, rfl, Option.some.inj er⟩
      have tok := ok.2.1 t (pm.mem_iff.mp (List.mem_of_getElem? et))
      obtain ⟨b, rfl, hb⟩ := id hrow
      have hb2 := Same.seqA s2 hb
      have lenL : L.length = i := by
        have := pL.length_eq
        rw [List.length_map, List.length_take, List.length_map] at this
        omega
      refine ⟨_, rfl, _, rfl, n, _, row2 t, rfl, ⟨b, rfl, hb2⟩, (row2_ok tok).1, (row2_ok tok).2, (by decide : 2 < 64), fun H3 s3 => ⟨_, rfl, iteF ?_⟩⟩
      have hb3 := Same.seqA s3 hb2
      refine ⟨_, rfl, b, _, rfl, hb3, rfl, _, rfl, iteF ?_⟩
      refine ⟨_, rfl, b, _, rfl, hb3, fun t4 H4 h4 s4 => ?_⟩
      have s34 := s3.trans s4
      have fresh : row2 t ∉ L.map (·.2) := fun z => by
        have z2 := pL.mem_iff.mp z
        obtain ⟨j, hj, ej⟩ := List.getElem_of_mem z2
        rw [List.length_take] at hj
        rw [List.getElem_take] at ej
        have hi2 : (ps.map row2)[i]? = some (row2 t) := er
        obtain ⟨hi3, e3⟩ := List.getElem?_eq_some_iff.mp hi2
        have := (List.getElem_inj nd).mp (ej.trans e3.symm)
        omega
      refine ⟨_, rfl, sn, t4, L, row2 t, rfl, rfl, s34 _ _ eS, (fun p hp => Same.seqT s34 (hL p hp)), h4, _, rfl, ?_⟩
      rw [decide_eq_false fresh]
      refine iteF ?_
      refine ⟨_, rfl, ⟨sn, L, rfl, s34 _ _ eS⟩, _, rfl, b, _, rfl, Same.seqA s4 hb3, fun t5 H5 h5 s5 => ?_⟩
      have s35 := s34.trans s5
      refine ⟨sn, t5, L, row2 t, rfl, rfl, s35 _ _ eS, (fun p hp => Same.seqT s35 (hL p hp)), h5, by omega, fun L' _ c2 => ?_⟩
      have p2 := c2 fresh
      refine ⟨_, L', rfl, upd_same, ?_, fun p hp => ?_, Same.upd_new (s2.trans s35) nsH⟩
      · rw [take_next er]
        have q1 : (L'.map (·.2)).Perm (row2 t :: L.map (·.2)) := p2.map (·.2)
        exact q1.trans ((pL.cons _).trans (List.perm_append_singleton _ _).symm)
      · rcases List.mem_cons.mp (p2.mem_iff.mp hp) with rfl | hp
        · exact seqT_offS h5 (s35 _ _ eS)
        · exact seqT_offS (Same.seqT s35 (hL p hp)) (s35 _ _ eS)
    · rintro σ H2 ⟨v, L, rfl, eS, pL, hL, s2⟩
      rw [hlen, ← List.length_map (f := row2), List.take_length] at pL
      have pLt : (L.map (·.2)).Perm (ts.map row2) := pL.trans (pm.map row2)
      refine ⟨_, rfl, sn, L, 2, 64, rfl, eS, hL, by decide, fun p hp => ?_, fun L' q pm' nd' l64 pw nq => ?_⟩
      · obtain ⟨t, ht, e⟩ := List.mem_map.mp (pLt.mem_iff.mp (List.mem_map.mpr ⟨p, hp, rfl⟩))
        have e' : row2 t = p.2 := e
        obtain ⟨a0, a1, b0, b1, _⟩ := ok.2.1 t ht
        rw [← e']
        refine ⟨rfl, fun z hz => ?_⟩
        rcases List.mem_cons.mp hz with rfl | hz
        · omega
        · rw [List.mem_singleton.mp hz]; omega
      · have eL : L'.map (·.2) = ts.map row2 := ties_uniq n60 ((pm'.map (·.2)).trans pLt) ok (by rw [List.pairwise_map]; exact pw)
        refine ⟨q, _, rfl, .inl ⟨SqL.of upd_same, fun t nt => ?_⟩⟩
        have s3 := (Same.new (o := .lst (L'.map fun q => V.ref q.1)) nq).trans (Same.new (o := .tup (L'.map fun q => V.ref q.1)) nt)
        exact k t _ _ upd_same (ties_of eL fun p hp => Same.seqT s3 (hL p (pm'.mem_iff.mp hp))) (s2.trans s3)
end
end Y
set_option Elab.async false
set_option linter.all false
set_option maxRecDepth 100000
set_option maxHeartbeats 4000000
namespace Y
open PySem L2
/-! ### the rings, checked; a yard made -/
abbrev sMade : Stmt := top 35
def spCRings (K : PySem.W.Frag) : Sp := fun vs H Q _ => ∃ (n : Nat) (z : Addr) (zs : List V) (rs : List (List Int)), vs = [.int (n : Int), .ref z] ∧ SqA K H z zs ∧ Paired (RowAt K H) zs rs ∧ (∀ r ∈ rs, RingOk n r) ∧ n ≤ 60 ∧ rs.length ≤ 100 ∧
  ∀ t ys H', H' t = some (.tup ys) → Paired (RingAt K H') ys rs → Same H H' → Q (.ref t) H'
def spYInit (K : PySem.W.Frag) : Sp := fun vs H Q _ => ∃ (x C dx a e : Addr) (n : Nat) (zs ws : List V) (ps ts : List (Int × Int)) (rs : List (List Int)), vs = [.ref x, .int (n : Int), .ref a, .ref e] ∧ YCls K C ∧ H x = some (.ins C dx []) ∧ 1 ≤ n ∧ n ≤ 60 ∧
  SqA K H a zs ∧ Paired (RowAt K H) zs (ps.map row2) ∧ ps.Perm ts ∧ TiesOk n ts ∧ ts.length ≤ 60 ∧ SqA K H e ws ∧ Paired (RowAt K H) ws rs ∧ (∀ r ∈ rs, RingOk n r) ∧ rs.length ≤ 100 ∧
  ∀ H', YObj K H' x n ts rs → (∀ b o, b ≠ x → H b = some o → H' b = some o) → Q .non H'
def spMade (K : PySem.W.Frag) : Sp := fun vs H Q _ => ∃ (p c q : Addr) (n b : Nat) (ts : List (Int × Int)) (rs : List (List Int)), vs = [.ref p, .ref q] ∧ Pen H p c (b + 130) ∧ YdAt K H q n ts rs ∧ YdOk n ts rs ∧
  ∀ x H', YObj K H' x n ts rs → Kp H H' → Pen H' p c b → Q (.ref x) H'
/-- what is no instance stands when an instance changes -/
theorem seqT_offI {K : PySem.W.Frag} {H : Hp} {x a C dx : Addr} {fs : List (Str × V)} {xs : List V} {o : HO} (h : SqT K H a xs) (e : H x = some (.ins C dx fs)) : SqT K (upd H x o) a xs :=
  seqT_offE h e (fun _ z => by cases z) (fun _ _ z => by cases z)
theorem seqL_offI {K : PySem.W.Frag} {H : Hp} {x a C dx : Addr} {fs : List (Str × V)} {xs : List V} {o : HO} (h : SqL K H a xs) (e : H x = some (.ins C dx fs)) : SqL K (upd H x o) a xs := by
  rcases h with (h | ⟨o', h⟩) | h
  · exact .inl (.inl (by rw [upd_ne (ne_of h e (by intro z; cases z))]; exact h))
  · exact .inl (.inr ⟨o', by rw [upd_ne (ne_of h e (by intro z; cases z))]; exact h⟩)
  · exact .inr h
theorem seqA_offI {K : PySem.W.Frag} {H : Hp} {x a C dx : Addr} {fs : List (Str × V)} {xs : List V} {o : HO} (h : SqA K H a xs) (e : H x = some (.ins C dx fs)) : SqA K (upd H x o) a xs :=
  h.imp (fun h => seqL_offI h e) fun h => seqT_offI h e
theorem rows_offI {K : PySem.W.Frag} {H : Hp} {x C dx : Addr} {fs : List (Str × V)} {ys : List V} {rs : List (List Int)} {o : HO} (h : Paired (RowAt K H) ys rs) (e : H x = some (.ins C dx fs)) : Paired (RowAt K (upd H x o)) ys rs :=
  par_map (fun y r ⟨b, e1, hb⟩ => ⟨b, e1, seqA_offI hb e⟩) h
theorem ties_offI {K : PySem.W.Frag} {H : Hp} {x C dx : Addr} {fs : List (Str × V)} {ys : List V} {ts : List (Int × Int)} {o : HO} (h : Paired (TieAt K H) ys ts) (e : H x = some (.ins C dx fs)) : Paired (TieAt K (upd H x o)) ys ts :=
  par_map (fun y r ⟨b, e1, hb⟩ => ⟨b, e1, seqT_offI hb e⟩) h
theorem rings_offI {K : PySem.W.Frag} {H : Hp} {x C dx : Addr} {fs : List (Str × V)} {ys : List V} {rs : List (List Int)} {o : HO} (h : Paired (RingAt K H) ys rs) (e : H x = some (.ins C dx fs)) : Paired (RingAt K (upd H x o)) ys rs :=
  par_map (fun y r ⟨b, e1, hb⟩ => ⟨b, e1, seqT_offI hb e⟩) h
theorem par_perm {R : V → Int × Int → Prop} {ys ys' : List V} (p : ys'.Perm ys) : ∀ {ts : List (Int × Int)}, Paired R ys ts → ∃ ps, ps.Perm ts ∧ Paired R ys' ps := by
  induction p with
  | nil => intro ts h; exact ⟨ts, .refl _, h⟩
  | cons x _ ih =>
    intro ts h
    cases h with
    | cons a t =>
      obtain ⟨ps, p1, h1⟩ := ih t
      exact ⟨_ :: ps, p1.cons _, .cons a h1⟩
  | swap x y l =>
    intro ts h
    cases h with
    | cons a t =>
      cases t with
      | cons b t => exact ⟨_, List.Perm.swap _ _ _, .cons b (.cons a t)⟩
  | trans _ _ ih1 ih2 =>
    intro ts h
    obtain ⟨ps, p1, h1⟩ := ih2 h
    obtain ⟨qs, p2, h2⟩ := ih1 h1
    exact ⟨qs, p2.trans p1, h2⟩
theorem par_rows {K : PySem.W.Frag} {H : Hp} {ys : List V} {ps : List (Int × Int)} (h : Paired (TieAt K H) ys ps) : Paired (TupI K H) ys (ps.map row2) := by
  induction h with
  | nil => exact .nil
  | cons a _ ih => exact .cons a ih
structure TYd (K : PySem.W.Frag) (mg : Str → Option Value) (C fInt fRow fUn fCnt fCT fCR : Addr) : Prop where
  u : TUn K mg fInt fRow fUn fCnt
  gCT : mg "checked_ties" = some (.ref fCT)
  gCR : mg "checked_rings" = some (.ref fCR)
  cls : YCls K C
  gYard : mg "Yard" = some (.ref C)
section
variable {P : Program} {w : World} {K : PySem.W.Frag} {mg : Str → Option Value} {base : Heap} {fInt fRow fUn fCnt fCT fCR fDraw fL : Addr}
theorem scCRings : FnScope ["places", "rings", "index", "ring"] ["places", "rings"] (defScope sCRings) := ⟨rfl, rfl, rfl, by decide +kernel, rfl, by decide +kernel, by decide +kernel⟩
theorem ok_crings {f : Addr} {fd fdR fdU : FuncData} (F : Fun K "checked_rings" "checked_rings" sCRings f fd) (T : TUn K mg fInt fRow fUn fCnt) (FR : Fun K "is_row" "is_row" sIsRow fRow fdR) (bR : Binds K fdR ["value"] [])
    (GU : FnOk P w K mg base CX0 3 fUn fdU ["many", "value"] (spUnlike K)) (FU : Fun K "are_unlike_numbers" "are_unlike_numbers" sUnlike fUn fdU) (bU : Binds K fdU ["many", "value"] []) :
    FnOk P w K mg base CX0 4 f fd ["places", "rings"] (spCRings K) := by
  have GR : FnOk P w K mg base CX0 1 fRow fdR ["value"] (spIsRow K) := ok_isRow FR T.i
  refine F.ok scCRings (fun vs H Q E h => ?_) (fun cdv A outer s H vs Q E hr h => ?_)
  · obtain ⟨n, z, zs, rs, rfl, _⟩ := h
    rfl
  · obtain ⟨n, z, zs, rs, rfl, hz, pz, rok, n60, r100, k⟩ := h
    have hr1 : Room 1 _ := hr.mono (by decide)
    refine ⟨_, pss_cons (ps_if (pt_not (pt_val (pe_call GR hr1 (by rfl) T.gRow FR.kp bR .nil pass0 (pa_cons (pv 1) pa_nil)))) (pss_one ps_never) pss_nil)
      (pss_cons (ps_for PassesOwn.never rfl (pi_enumV (by rfl) T.enum (pv 1)) (pg_tup rfl (pgs_cons (pg_name (i := 2) scCRings.nd rfl (Or.inl rfl)) (pgs_cons (pg_name (i := 3) scCRings.nd rfl (Or.inl rfl)) pgs_nil)))
        (pss_one (ps_if (PW.pt (pw_or (pt_not (pt_val (pe_call GU hr (by rfl) T.gUn FU.kp bU .nil pass0 (pa_cons (pv 0) (pa_cons (pv 3) pa_nil))))) (pw_or1 (pt_cmpR op_lt (pe_callB call_len_seq (by rfl) T.len PySem.boot_len (pa_cons (pv 3) pa_nil)) pe_int (nomark _))))) (pss_one ps_never) pss_nil)))
      (pss_one (ps_ret (pe_callTy call_tuple_of (by rfl) T.i.tuple (by decide +kernel) (pa_cons (pe_lc (own := [("ring", 3)]) (g := gName 3) (tt := tYes) rfl scCRings.nd (pi_seqV (pv 1)) (blkOk_by (N := ["places", "rings", "index", "ring"]) (sc := defScope sCRings) (by decide +kernel))
        (fun _ _ _ _ _ => pg_name (i := 3) scCRings.nd rfl (Or.inl rfl)) (fun _ _ _ _ _ => pts_nil) (fun _ _ _ _ _ => pe_callTy (call_tuple_anyK (K := K) rfl) (by rfl) T.i.tuple (by decide +kernel) (pa_cons (pv 3) pa_nil))) pa_nil))))), ?_⟩
    refine ⟨_, rfl, _, rfl, hz.imp (TyX.same (H' := H)) ty_tup, fun H1 s1 => ⟨_, rfl, iteF ?_⟩⟩
    have hlen : zs.length = rs.length := Paired.length pz
    refine ⟨z, zs, H, rfl, hz, .of_same s1, fun J G w1 hG => ?_⟩
    refine for_it w1 (fun i σ H' => ∃ (v2 v3 : Option V), σ = [some (.int (n : Int)), some (.ref z), v2, v3] ∧ Same H H') ⟨none, none, rfl, s1⟩ (fun i σ H' _ ⟨_, _, _, s⟩ => hG H' (.of_same s)) ?_ ?_
    · rintro i v σ H2 H3 hi ⟨v2, v3, rfl, s2⟩ ⟨T1, u, y, rfl, nT, rfl, e1, e2⟩
      cases Option.some.inj e1
      have s3 := s2.trans (Same.new (o := .tup [.int (i : Nat), y]) nT)
      obtain ⟨r, er, hrow⟩ := par_get pz e2
      obtain ⟨rn, rb, r3, rl⟩ := rok r (List.mem_of_getElem? er)
      obtain ⟨b, rfl, hb⟩ := id hrow
      refine ⟨T1, _, rfl, SqT.of upd_same, rfl, _, _, rfl, _, _, rfl, rfl, ?_⟩
      refine ⟨_, rfl, _, rfl, n, _, r, rfl, ⟨b, rfl, Same.seqA s3 hb⟩, rb, rn, by omega, fun H4 s4 => ⟨_, rfl, iteF ?_⟩⟩
      refine ⟨_, rfl, b, _, rfl, Same.seqA (s3.trans s4) hb, _, _, rfl, rfl, _, rfl, ?_⟩
      refine ifT (fun h => ?_) (fun _ => ⟨_, _, rfl, s3.trans s4⟩)
      have h' : (((r.map V.int).length : Nat) : Int) < 3 := of_decide_eq_true h
      rw [List.length_map] at h'
      omega
    · rintro σ H2 ⟨v2, v3, rfl, s2⟩
      refine ⟨z, zs, H, rfl, hz, .of_same s2, fun J2 G2 w2 hG2 D hD => ?_⟩
      have nDH : H D = none := s2.free hD
      refine lc_it w2 (fun i H' => ∃ ws, H' D = some (.lst ws) ∧ Paired (RingAt K H') ws (rs.take i) ∧ ws.length = i ∧ Same H H') ⟨[], upd_same, .nil, rfl, s2.trans (Same.new hD)⟩ (fun i H' _ ⟨_, _, _, _, s⟩ => hG2 H' (.of_same s)) (fun i x H3 H3' hi h y => ?_) (fun H3 h => ?_)
      · obtain ⟨ws, eD, pw, lw, s3⟩ := h
        obtain ⟨rfl, hx⟩ := y
        obtain ⟨r, er, b, rfl, hb⟩ := par_get pz hx
        refine ⟨rfl, _, rfl, b, _, rfl, Same.seqA s3 hb, fun t H4 ht s4 => ?_⟩
        have eD4 := s4 _ _ eD
        refine ⟨ws, eD4, Nat.lt_of_le_of_lt (by omega : ws.length ≤ 100) (by decide), ws ++ [V.ref t], upd_same, ?_, by rw [List.length_append, lw]; rfl, Same.upd_new (s3.trans s4) nDH⟩
        rw [take_next er]
        exact par_snoc (par_map (fun y r ⟨b, e1, hb⟩ => ⟨b, e1, seqT_off (Same.seqT s4 hb) eD4⟩) pw) ⟨t, rfl, seqT_off ht eD4⟩
      · obtain ⟨ws, eD, pw, lw, s3⟩ := h
        rw [hlen, List.take_length] at pw
        exact ⟨D, _, rfl, .inl ⟨SqL.of eD, fun t nt => k t ws _ upd_same (rings_kp pw (.new nt)) (s3.trans (Same.new nt))⟩⟩
theorem scYInit : FnScope ["self", "places", "ties", "rings"] ["self", "places", "ties", "rings"] (defScope sYInit) := ⟨rfl, rfl, rfl, by decide +kernel, rfl, by decide +kernel, by decide +kernel⟩
theorem ok_yinit {f C : Addr} {fd fdI fdT fdR : FuncData} (F : Fun K "__init__" "Yard.__init__" sYInit f fd) (T : TYd K mg C fInt fRow fUn fCnt fCT fCR) (FI : Fun K "is_integer" "is_integer" sIsInt fInt fdI) (bI : Binds K fdI ["value"] [])
    (GT : FnOk P w K mg base CX0 4 fCT fdT ["places", "ties"] (spCTies K)) (FT : Fun K "checked_ties" "checked_ties" sCTies fCT fdT) (bT : Binds K fdT ["places", "ties"] [])
    (GR : FnOk P w K mg base CX0 4 fCR fdR ["places", "rings"] (spCRings K)) (FR : Fun K "checked_rings" "checked_rings" sCRings fCR fdR) (bR : Binds K fdR ["places", "rings"] []) :
    FnOk P w K mg base CX0 5 f fd ["self", "places", "ties", "rings"] (spYInit K) := by
  have GI : FnOk P w K mg base CX0 1 fInt fdI ["value"] spIsInt := ok_isInt FI T.u.i
  refine F.ok scYInit (fun vs H Q E h => ?_) (fun cdv A outer s H vs Q E hr h => ?_)
  · obtain ⟨x, C, dx, a, e, n, zs, ws, ps, ts, rs, rfl, _⟩ := h
    rfl
  · obtain ⟨x, C, dx, a, e, n, zs, ws, ps, ts, rs, rfl, yc, hx, n1, n60, ha, pa, pm, tok, t60, he, pe, rok, r100, k⟩ := h
    have hr1 : Room 1 _ := hr.mono (by decide)
    refine ⟨_, pss_cons (ps_if (PW.pt (pw_or (pt_not (pt_val (pe_call GI hr1 (by rfl) T.u.gInt FI.kp bI .nil pass0 (pa_cons (pv 1) pa_nil)))) (pw_or1 (pt_cmpR op_lt (pv 1) pe_int (nomark _))))) (pss_one ps_never) pss_nil)
      (pss_cons (ps_fld (pv 0) (pv 1) rfl)
      (pss_cons (ps_fld (pv 0) (pe_call GT hr (by rfl) T.gCT FT.kp bT .nil pass0 (pa_cons (pv 1) (pa_cons (pv 2) pa_nil))) rfl)
      (pss_one (ps_fld (pv 0) (pe_call GR hr (by rfl) T.gCR FR.kp bR .nil pass0 (pa_cons (pv 1) (pa_cons (pv 3) pa_nil))) rfl)))), ?_⟩
    refine ⟨_, rfl, (n : Int), rfl, _, rfl, iteF ?_⟩
    refine ⟨_, rfl, _, _, rfl, rfl, _, rfl, ?_⟩
    refine ifT (fun h => ?_) (fun _ => ?_)
    · have h' : (n : Int) < 1 := of_decide_eq_true h
      omega
    refine ⟨_, rfl, _, rfl, x, C, dx, [], rfl, hx, yc.c, yc.p, (by show 0 < 1000; decide), ?_⟩
    have hx1 : (upd H x (.ins C dx (putF "places" (.int (n : Int)) []))) x = some (.ins C dx (putF "places" (.int (n : Int)) [])) := upd_same
    refine ⟨_, rfl, _, rfl, n, a, zs, ps, ts, rfl, seqA_offI ha hx, rows_offI pa hx, pm, tok, n60, t60, fun t ys H2 et pt s2 => ?_⟩
    have hx2 := s2 _ _ hx1
    refine ⟨_, rfl, x, C, dx, _, rfl, hx2, yc.c, yc.t, (by show 1 < 1000; decide), ?_⟩
    have hx3 : (upd H2 x (.ins C dx (putF "ties" (.ref t) (putF "places" (.int (n : Int)) [])))) x = some (.ins C dx (putF "ties" (.ref t) (putF "places" (.int (n : Int)) []))) := upd_same
    refine ⟨_, rfl, _, rfl, n, e, ws, rs, rfl, seqA_offI (Same.seqA s2 (seqA_offI he hx)) hx2, rows_offI (rows_kp (rows_offI pe hx) (.of_same s2)) hx2, rok, n60, r100, fun u vs' H4 eu pu s4 => ?_⟩
    have hx4 := s4 _ _ hx3
    refine ⟨_, rfl, x, C, dx, _, rfl, hx4, yc.c, yc.r, (by show 2 < 1000; decide), ?_⟩
    refine k _ ⟨C, dx, t, u, _, ys, vs', upd_same, yc, ?_, ?_, ?_, seqT_offI (Same.seqT s4 (seqT_offI (SqT.of et) hx2)) hx4, ties_offI (ties_kp (ties_offI pt hx2) (.of_same s4)) hx4, seqT_offI (SqT.of eu) hx4, rings_offI pu hx4⟩ fun b o nb e0 => ?_
    · rw [lookup_putF, if_neg (by decide +kernel), lookup_putF, if_neg (by decide +kernel), lookup_putF, if_pos rfl]
    · rw [lookup_putF, if_neg (by decide +kernel), lookup_putF, if_pos rfl]
    · rw [lookup_putF, if_pos rfl]
    · rw [upd_ne nb]
      refine s4 _ _ ?_
      rw [upd_ne nb]
      refine s2 _ _ ?_
      rw [upd_ne nb]
      exact e0
theorem scMade : FnScope ["_law_pen_here", "_law_yard"] ["_law_pen_here", "_law_yard"] (defScope sMade) := ⟨rfl, rfl, rfl, by decide +kernel, rfl, by decide +kernel, by decide +kernel⟩
theorem ok_made {f C fI fS : Addr} {fd fdI fdS fdL fdD : FuncData} (F : Fun K "_law_made_yard" "_law_made_yard" sMade f fd) (T : TYd K mg C fInt fRow fUn fCnt fCT fCR) (TL : TLs K mg fDraw fL) (gS : mg "_law_shuffled" = some (.ref fS)) (M : Mk K C fI)
    (GY : FnOk P w K mg base CX0 5 fI fdI ["self", "places", "ties", "rings"] (spYInit K)) (bY : Binds K fdI ["self", "places", "ties", "rings"] [])
    (FS : Fun K "_law_shuffled" "_law_shuffled" sShuf fS fdS) (bS : Binds K fdS ["_law_pen_here", "_law_some"] []) (FL : Fun K "_law_listed" "_law_listed" sListed fL fdL) (bL : Binds K fdL ["_law_pen_here", "_law_some"] [])
    (FD : Fun K "_law_draw" "_law_draw" sDraw fDraw fdD) (bD : Binds K fdD ["_law_pen_here", "_law_many"] []) :
    FnOk P w K mg base CX0 7 f fd ["_law_pen_here", "_law_yard"] (spMade K) := by
  have GS : FnOk P w K mg base CX0 2 fS fdS ["_law_pen_here", "_law_some"] (spShuf K) := ok_shuf FS TL.g FD bD
  have GL : FnOk P w K mg base CX0 3 fL fdL ["_law_pen_here", "_law_some"] (spL2 K) := ok_l2 FL bL TL FD bD
  refine F.ok scMade (fun vs H Q E h => ?_) (fun cdv A outer s H vs Q E hr h => ?_)
  · obtain ⟨p, c, q, n, b, ts, rs, rfl, _⟩ := h
    rfl
  · obtain ⟨p, c, q, n, b, ts, rs, rfl, hP, ⟨a, e, ys, zs, hq, ha, pa, he, pe⟩, ⟨n1, n12, tok, tl, rok, rl⟩, k⟩ := h
    refine ⟨_, pss_one (ps_ret (pe_make M GY hr (by rfl) T.gYard bY .nil pass0 (pa_cons (pe_ix ix_tup (pv 1) pe_int (fun _ _ => rfl))
      (pa_cons (pe_call GL (hr.mono (by decide)) (by rfl) TL.gL FL.kp bL .nil pass0 (pa_cons (pv 0) (pa_cons (pe_callTy call_tuple_of (by rfl) TL.g.tuple (by decide +kernel) (pa_cons (pe_call GS (hr.mono (by decide)) (by rfl) gS FS.kp bS .nil pass0 (pa_cons (pv 0) (pa_cons (pe_ix ix_tup (pv 1) pe_int (fun _ _ => rfl)) pa_nil))) pa_nil)) pa_nil)))
      (pa_cons (pe_call GL (hr.mono (by decide)) (by rfl) TL.gL FL.kp bL .nil pass0 (pa_cons (pv 0) (pa_cons (pe_ix ix_tup (pv 1) pe_int (fun _ _ => rfl)) pa_nil))) pa_nil))))), ?_⟩
    have yl : ys.length = ts.length := Paired.length pa
    refine ⟨_, rfl, q, _, 0, _, rfl, rfl, hq, atI_nat (j := 0) rfl, ?_⟩
    refine ⟨_, rfl, _, rfl, _, rfl, q, _, 1, _, rfl, rfl, hq, atI_nat (j := 1) rfl, ?_⟩
    refine ⟨p, c, a, ys, b + 70, rfl, hP.less (by omega), .inr ha, by omega, fun s1 ys1 H1 pm e1 kp1 P1 => ?_⟩
    refine ⟨s1, _, rfl, .inl ⟨SqL.of e1, fun t nt => ?_⟩⟩
    obtain ⟨ps, pp, hp⟩ := par_perm pm pa
    have pl := pp.length_eq
    have kp2 := kp1.trans (.new (o := .tup ys1) nt)
    refine ⟨p, c, t, ys1, ps.map row2, b + 5, rfl, (P1.same (Same.new nt)).less (by rw [List.length_map]; omega), SqT.of upd_same, par_rows (ties_kp hp kp2), by rw [List.length_map]; omega, fun r hr => ?_, fun q2 zs2 H3 hz2 pz2 kp3 P3 => ?_⟩
    · obtain ⟨u, _, rfl⟩ := List.mem_map.mp hr
      exact ⟨by show 2 ≤ 100; decide, by intro z; cases z⟩
    have kpA := kp2.trans kp3
    refine ⟨_, rfl, _, rfl, q, _, 2, _, rfl, rfl, kpA.seqT hq, atI_nat (j := 2) rfl, ?_⟩
    refine ⟨p, c, e, zs, rs, b, rfl, P3.less (by omega), kpA.seqT he, rings_kp pe kpA, by omega, fun r hr => ?_, fun q4 zs4 H4 hz4 pz4 kp4 P4 => ?_⟩
    · obtain ⟨_, _, r3, rl'⟩ := rok r hr
      exact ⟨by omega, fun z => by rw [z] at r3; exact absurd r3 (by decide)⟩
    intro x dx nx ndx ne
    have sm : Same H4 (upd (upd H4 dx (.own x)) x (.ins C dx [])) := (Same.new ndx).trans (Same.new (by rw [upd_ne (Ne.symm ne)]; exact nx))
    refine ⟨x, C, dx, q2, q4, n, zs2, zs4, ps, ts, rs, rfl, T.cls, upd_same, n1, by omega, Same.seqA sm (kp4.seq hz2), rows_kp (rows_kp pz2 kp4) (.of_same sm), pp, tok, tl, Same.seqA sm hz4, rows_kp pz4 (.of_same sm), rok, by omega, fun H5 yo keep => ⟨rfl, ?_⟩⟩
    have s5 : Same H4 H5 := fun b' o e' => keep b' o (ne_of_none e' nx) (sm b' o e')
    exact k x H5 yo ((kpA.trans kp4).trans (.of_same s5)) (P4.same s5)
end
end Y
set_option Elab.async false
set_option linter.all false
set_option maxRecDepth 100000
set_option maxHeartbeats 4000000
namespace L2
open PySem PySem.Spec PyProof.Rows
/-- an item of a list or a tuple, whichever it is -/
def rIxA (K : PySem.W.Frag) : R2 := fun x y H Q => ∃ (p : Addr) (xs : List V) (i : Int) (z : V), x = .ref p ∧ y = .int i ∧ (SqL K H p xs ∨ SqT K H p xs) ∧ atI xs i = some z ∧ Q z H
theorem ix_any {X : Cx} : IxR X (rIxA X.K) := by
  intro value slice pins s σ H x y v u Q I rx ry h hs
  obtain ⟨p, xs, i, z, e1, e2, hq, he, q⟩ := h
  rcases hq with hq | hq
  · exact ix_list value slice pins s σ H x y v u Q I rx ry ⟨p, xs, i, z, e1, e2, hq, he, q⟩ hs
  · exact ix_tup value slice pins s σ H x y v u Q I rx ry ⟨p, xs, i, z, e1, e2, hq, he, q⟩ hs
end L2
namespace Y
open PySem L2
abbrev sIsStand : Stmt := top 16
abbrev sCanBe : Stmt := top 18
abbrev sBehind : Stmt := top 19
abbrev sBehindAll : Stmt := top 20
abbrev sPlayed : Stmt := top 21
/-! ### a turn, as the program makes it -/
def prevI (r : List Int) (j : Nat) : Nat := (j + (r.length - 1)) % r.length
def turnP (r st : List Int) (m : Nat) : List Int := (List.range m).foldl (fun acc j => acc.set (pl r j) (st.getD (pl r (prevI r j)) 0)) st
theorem turnP_succ (r st : List Int) (m : Nat) : turnP r st (m + 1) = (turnP r st m).set (pl r m) (st.getD (pl r (prevI r m)) 0) := by
  unfold turnP
  rw [List.range_succ, List.foldl_append]
  rfl
theorem turnP_len (r st : List Int) : ∀ m, (turnP r st m).length = st.length
  | 0 => rfl
  | m + 1 => by rw [turnP_succ, List.length_set, turnP_len r st m]
theorem turnP_at {n : Nat} {r st : List Int} (ok : RingOk n r) (hs : st.length = n) : ∀ m, m ≤ r.length → (∀ j, j < m → (turnP r st m).getD (pl r j) 0 = st.getD (pl r (prevI r j)) 0) ∧ (∀ p, (∀ j, j < m → pl r j ≠ p) → (turnP r st m).getD p 0 = st.getD p 0)
  | 0, _ => ⟨fun j h => absurd h (Nat.not_lt_zero _), fun p _ => rfl⟩
  | m + 1, hm => by
    obtain ⟨h1, h2⟩ := turnP_at ok hs m (by omega)
    rw [turnP_succ]
    refine ⟨fun j hj => ?_, fun p hp => ?_⟩
    · by_cases c : j = m
      · subst c
        exact getD_set_eq (by rw [turnP_len, hs]; exact pl_lt ok (by omega))
      · rw [getD_set_ne (fun z => c (pl_inj ok (by omega) (by omega) z).symm)]
        exact h1 j (by omega)
    · rw [getD_set_ne (hp m (by omega))]
      exact h2 p fun j hj => hp j (by omega)
theorem turnP_eq {n : Nat} {r st : List Int} (ok : RingOk n r) (hs : st.length = n) : turnP r st r.length = turnTo r st r.length := by
  refine List.ext_getElem? fun p => ?_
  by_cases hp : p < st.length
  · have hp1 : p < (turnP r st r.length).length := by rw [turnP_len]; exact hp
    have hp2 : p < (turnTo r st r.length).length := by rw [turnTo_len]; exact hp
    have g : (turnP r st r.length).getD p 0 = (turnTo r st r.length).getD p 0 := by
      by_cases c : ∃ i, i < r.length ∧ pl r i = p
      · obtain ⟨i, hi, rfl⟩ := c
        rw [(turnP_at ok hs r.length (Nat.le_refl _)).1 i hi]
        exact (turn1_ring ok hs hi).symm
      · rw [(turnP_at ok hs r.length (Nat.le_refl _)).2 p fun j hj z => c ⟨j, hj, z⟩]
        exact (turn1_off ok hs fun i hi z => c ⟨i, hi, z⟩).symm
    rw [List.getD_eq_getElem?_getD, List.getD_eq_getElem?_getD, List.getElem?_eq_getElem hp1, List.getElem?_eq_getElem hp2] at g
    rw [List.getElem?_eq_getElem hp1, List.getElem?_eq_getElem hp2]
    exact congrArg some g
  · rw [List.getElem?_eq_none (by rw [turnP_len]; omega), List.getElem?_eq_none (by rw [turnTo_len]; omega)]
theorem prevI_lt {r : List Int} {j : Nat} (h : j < r.length) : prevI r j < r.length := Nat.mod_lt _ (by omega)
theorem atI_prev {r : List Int} {j : Nat} (h : j < r.length) : atI (r.map V.int) ((j : Int) - 1) = some (.int (r.getD (prevI r j) 0)) := by
  have hl : (r.map V.int).length = r.length := List.length_map _
  by_cases c : j = 0
  · subst c
    have e : prevI r 0 = r.length - 1 := by unfold prevI; rw [Nat.zero_add, Nat.mod_eq_of_lt (by omega)]
    unfold atI ixN
    rw [hl, if_neg (by omega), if_pos (by omega), e]
    show (r.map V.int)[((((0 : Nat) : Int) - 1) + (r.length : Int)).toNat]? = _
    rw [show ((((0 : Nat) : Int) - 1) + (r.length : Int)).toNat = r.length - 1 by omega]
    exact getD_at (by omega)
  · have e : prevI r j = j - 1 := by
      unfold prevI
      rw [show j + (r.length - 1) = (j - 1) + r.length by omega, Nat.add_mod_right, Nat.mod_eq_of_lt (by omega)]
    rw [e, show ((j : Int) - 1) = ((j - 1 : Nat) : Int) by omega]
    exact atI_nat (getD_at (by omega))
/-! ### promises -/
def spIsStand (K : PySem.W.Frag) : Sp := fun vs H Q _ => ∃ (x : Addr) (y : V) (n : Nat) (ts : List (Int × Int)) (rs : List (List Int)) (st : List Int), vs = [.ref x, y] ∧ YObj K H x n ts rs ∧ RowAt K H y st ∧ st.length = n ∧ n ≤ 1000 ∧ (∀ z ∈ st, 0 ≤ z) ∧ ∀ H', Same H H' → Q (.bl true) H'
def spCanBe (K : PySem.W.Frag) : Sp := fun vs H Q _ => ∃ (s : Addr) (y : V) (n : Nat) (ts : List (Int × Int)) (rs : List (List Int)) (st : List Int) (m : Mv), vs = [.ref s, y] ∧ SqA K H s (st.map V.int) ∧ st.length = n ∧ MvAt K H y m ∧ CanMv n ts rs st m ∧ Q (.bl true) H
def spBehind (K : PySem.W.Frag) : Sp := fun vs H Q _ => ∃ (x s : Addr) (y : V) (n : Nat) (ts : List (Int × Int)) (rs : List (List Int)) (st : List Int) (m : Mv), vs = [.ref x, .ref s, y] ∧ YObj K H x n ts rs ∧ n ≤ 1000 ∧ (∀ r ∈ rs, RingOk n r) ∧ SqA K H s (st.map V.int) ∧ st.length = n ∧ MvAt K H y m ∧ CanMv n ts rs st m ∧
  ∀ l H', H' l = some (.lst ((stepMv rs st m).map V.int)) → Same H H' → Q (.ref l) H'
theorem can_in {n : Nat} {ts : List (Int × Int)} {rs : List (List Int)} {st : List Int} {m : Mv} (h : CanMv n ts rs st m) : MvIn ts rs m := by
  cases m with
  | slide a b => exact h.1
  | turn k => exact h
theorem can_get {n : Nat} {ts : List (Int × Int)} {rs : List (List Int)} {m : Mv} : ∀ {ms : List Mv} {st : List Int} {i : Nat}, CanAll n ts rs st ms → ms[i]? = some m → CanMv n ts rs (playMvs rs st (ms.take i)) m
  | [], _, _, _, h => by simp at h
  | a :: l, st, 0, c, h => by cases Option.some.inj h; exact c.1
  | a :: l, st, i + 1, c, h => can_get (ms := l) (st := stepMv rs st a) (i := i) c.2 h
def spBehindAll (K : PySem.W.Frag) : Sp := fun vs H Q _ => ∃ (x s l : Addr) (n : Nat) (ts : List (Int × Int)) (rs : List (List Int)) (st : List Int) (ys : List V) (ms : List Mv), vs = [.ref x, .ref s, .ref l] ∧ YObj K H x n ts rs ∧ n ≤ 1000 ∧ (∀ r ∈ rs, RingOk n r) ∧ SqA K H s (st.map V.int) ∧ st.length = n ∧
  SqA K H l ys ∧ MvsAt K H ys ms ∧ CanAll n ts rs st ms ∧ ∀ t H', SqT K H' t ((playMvs rs st ms).map V.int) → Same H H' → Q (.ref t) H'
def spPlayed (K : PySem.W.Frag) : Sp := fun vs H Q _ => ∃ (x s l : Addr) (n : Nat) (ts : List (Int × Int)) (rs : List (List Int)) (st : List Int) (ys : List V) (ms : List Mv), vs = [.ref x, .ref s, .ref l] ∧ YObj K H x n ts rs ∧ n ≤ 1000 ∧ (∀ r ∈ rs, RingOk n r) ∧ SqA K H s (st.map V.int) ∧ st.length = n ∧ (∀ z ∈ st, 0 ≤ z) ∧
  SqA K H l ys ∧ MvsAt K H ys ms ∧ CanAll n ts rs st ms ∧ ∀ t H', SqT K H' t ((playMvs rs st ms).map V.int) → Same H H' → Q (.ref t) H'
structure TPl (K : PySem.W.Frag) (mg : Str → Option Value) (fInt fRow fIsS fMove fCan fBeh fAll fCnt : Addr) : Prop where
  i : TI0 mg
  len : mg "len" = none
  all : mg "all" = none
  enum : mg "enumerate" = none
  gInt : mg "is_integer" = some (.ref fInt)
  gRow : mg "is_row" = some (.ref fRow)
  gIsS : mg "is_stand_row" = some (.ref fIsS)
  gMove : mg "is_move" = some (.ref fMove)
  gCan : mg "can_be_made" = some (.ref fCan)
  gBeh : mg "behind_move" = some (.ref fBeh)
  gAll : mg "behind_all" = some (.ref fAll)
  gCnt : mg "is_count" = some (.ref fCnt)
section
variable {P : Program} {w : World} {K : PySem.W.Frag} {mg : Str → Option Value} {base : Heap} {fInt fRow fIsS fMove fCan fBeh fAll fCnt : Addr}
theorem scIsStand : FnScope ["yard", "value", "thing"] ["yard", "value"] (defScope sIsStand) := ⟨rfl, rfl, rfl, by decide +kernel, rfl, by decide +kernel, by decide +kernel⟩
theorem ok_isStand {f : Addr} {fd fdI fdR fdC : FuncData} (F : Fun K "is_stand_row" "is_stand_row" sIsStand f fd) (T : TPl K mg fInt fRow fIsS fMove fCan fBeh fAll fCnt) (FI : Fun K "is_integer" "is_integer" sIsInt fInt fdI) (bI : Binds K fdI ["value"] []) (FR : Fun K "is_row" "is_row" sIsRow fRow fdR) (bR : Binds K fdR ["value"] []) (FC : Fun K "is_count" "is_count" sIsCount fCnt fdC) (bC : Binds K fdC ["value"] []) :
    FnOk P w K mg base CX0 3 f fd ["yard", "value"] (spIsStand K) := by
  have GC : FnOk P w K mg base CX0 2 fCnt fdC ["value"] (spIsCountD K) := ok_isCountD FC T.i T.gInt FI bI
  have GR : FnOk P w K mg base CX0 2 fRow fdR ["value"] (spIsRow K) := (ok_isRow FR T.i).mono (by decide)
  refine F.ok scIsStand (fun vs H Q E h => ?_) (fun cdv A outer s H vs Q E hr h => ?_)
  · obtain ⟨x, y, n, ts, rs, st, rfl, _⟩ := h
    rfl
  · obtain ⟨x, y, n, ts, rs, st, rfl, hy, ⟨b, rfl, hb⟩, hst, n1000, pos, k⟩ := h
    refine ⟨_, pss_cons (ps_if (PW.pt (pw_or (pt_not (pt_val (pe_call GR hr (by rfl) T.gRow FR.kp bR .nil pass0 (pa_cons (pv 1) pa_nil)))) (pw_or1 (pt_cmpR op_ne (pe_callB call_len_seq (by rfl) T.len PySem.boot_len (pa_cons (pv 1) pa_nil)) (pe_fld (pv 0) rfl) (nomark _))))) (pss_one (ps_ret pe_bl)) pss_nil)
      (pss_one (ps_ret (pe_callB (cr_all rfl) (by rfl) T.all (by decide +kernel) (pa_cons (pe_lc (own := [("thing", 2)]) (g := gName 2) (tt := tYes) rfl scIsStand.nd (pi_seqV (pv 1)) (blkOk_by (N := ["yard", "value", "thing"]) (sc := defScope sIsStand) (by decide +kernel))
          (fun _ _ _ _ _ => pg_name (i := 2) scIsStand.nd rfl (Or.inl rfl)) (fun _ _ _ _ _ => pts_nil) (fun _ _ _ _ _ => pe_call GC hr (by rfl) T.gCnt FC.kp bC .nil pass0 (pa_cons (pv 2) pa_nil))) pa_nil)))), ?_⟩
    obtain ⟨C, dx, a, e, fs, tys, zs, hx, yc, lp, lt, lr, ha, pa, he, pe⟩ := id hy
    refine ⟨_, rfl, _, rfl, hb.imp (TyX.same (H' := H)) ty_tup, fun H1 s1 => ⟨_, rfl, iteF ?_⟩⟩
    refine ⟨_, rfl, b, _, rfl, Same.seqA s1 hb, _, rfl, x, C, dx, fs, _, rfl, s1 _ _ hx, yc.c, yc.p, lp, rfl, _, rfl, ?_⟩
    rw [List.length_map, hst]
    refine ifT (fun h => ?_) (fun _ => ?_)
    · rw [decide_eq_true rfl] at h
      cases h
    refine ⟨b, st.map V.int, H, rfl, hb, .of_same s1, fun J G w1 hG D hD => ?_⟩
    refine lcp_it (f := fun _ => V.bl true) (H1 := H1) w1 hD (by rw [List.length_map]; omega) (fun H' s' => hG H' ((Kp.of_same s1).trans s')) (fun i x0 H2 R hx s2 hR => ?_) ?_
    · obtain ⟨z, ez, rfl⟩ := ints_at hx
      have z0 := pos z (List.mem_of_getElem? ez)
      refine ⟨rfl, _, rfl, _, _, rfl, Dq.int z, ?_⟩
      show R (V.bl (decide (0 ≤ z))) H2
      rw [decide_eq_true z0]
      exact hR
    · have s2 := s1.trans (Same.new (o := .lst ((st.map V.int).map fun _ => V.bl true)) hD)
      refine ⟨D, st.map fun _ => true, rfl, ?_, ?_⟩
      · rw [List.map_map, List.map_map] at *
        exact SqL.of upd_same
      have allT : (st.map fun _ => true).all id = true := by
        rw [List.all_map, List.all_eq_true]
        intro x _
        rfl
      rw [allT]
      exact k _ s2
theorem scCanBe : FnScope ["stand", "move"] ["stand", "move"] (defScope sCanBe) := ⟨rfl, rfl, rfl, by decide +kernel, rfl, by decide +kernel, by decide +kernel⟩
theorem ok_canBe {f : Addr} {fd : FuncData} (F : Fun K "can_be_made" "can_be_made" sCanBe f fd) : FnOk P w K mg base CX0 1 f fd ["stand", "move"] (spCanBe K) := by
  refine F.ok scCanBe (fun vs H Q E h => ?_) (fun cdv A outer s H vs Q E hr h => ?_)
  · obtain ⟨s, y, n, ts, rs, st, m, rfl, _⟩ := h
    rfl
  · obtain ⟨s, y, n, ts, rs, st, m, rfl, hs, hst, ⟨b, rfl, hm⟩, can, k⟩ := h
    refine ⟨_, pss_one (ps_ret (pe_or (pe_cmpR op_eq (pe_ix ix_tup (pv 1) pe_int (fun _ _ => rfl)) pe_str (nomark _)) (pe_one (pe_and (pe_cmpR op_ne (pe_ix ix_any (pv 0) (pe_ix ix_tup (pv 1) pe_int (fun _ _ => rfl)) (fun _ _ => rfl)) pe_int (nomark _)) (pe_one (pe_cmpR op_eq (pe_ix ix_any (pv 0) (pe_ix ix_tup (pv 1) pe_int (fun _ _ => rfl)) (fun _ _ => rfl)) pe_int (nomark _))))))), ?_⟩
    cases m with
    | turn kk =>
      refine ⟨_, rfl, b, _, 0, _, rfl, rfl, hm, atI_nat (j := 0) rfl, rfl, true, rfl, iteT ?_⟩
      exact k
    | slide u v =>
      obtain ⟨_, ⟨a0, a1, b0, b1, _⟩, gu, gv⟩ := can
      rw [← hst] at a1 b1
      refine ⟨_, rfl, b, _, 0, _, rfl, rfl, hm, atI_nat (j := 0) rfl, rfl, false, rfl, iteF ?_⟩
      refine ⟨_, rfl, _, rfl, b, _, 1, _, rfl, rfl, hm, atI_nat (j := 1) rfl, s, _, u, _, rfl, rfl, hs, atI_st a0 a1, rfl, _, rfl, ?_⟩
      refine ifT (fun _ => ?_) (fun h => ?_)
      · refine ⟨_, rfl, _, rfl, b, _, 2, _, rfl, rfl, hm, atI_nat (j := 2) rfl, s, _, v, _, rfl, rfl, hs, atI_st b0 b1, rfl, ?_⟩
        rw [gv, decide_eq_true rfl]
        exact k
      · have ne : ¬ V.int (gAt st u) = V.int 0 := fun z => by injection z with z; omega
        rw [decide_eq_false ne] at h
        cases h
theorem scBehind : FnScope ["yard", "stand", "move", "behind", "ring", "index", "place"] ["yard", "stand", "move"] (defScope sBehind) := ⟨rfl, rfl, rfl, by decide +kernel, rfl, by decide +kernel, by decide +kernel⟩
theorem ok_behind {f : Addr} {fd : FuncData} (F : Fun K "behind_move" "behind_move" sBehind f fd) (T : TPl K mg fInt fRow fIsS fMove fCan fBeh fAll fCnt) : FnOk P w K mg base CX0 1 f fd ["yard", "stand", "move"] (spBehind K) := by
  refine F.ok scBehind (fun vs H Q E h => ?_) (fun cdv A outer s H vs Q E hr h => ?_)
  · obtain ⟨x, s, y, n, ts, rs, st, m, rfl, _⟩ := h
    rfl
  · obtain ⟨x, s, y, n, ts, rs, st, m, rfl, hy, n1000, rok, hs, hst, ⟨b, rfl, hm⟩, can, k⟩ := h
    refine ⟨_, pss_cons (ps_set (i := 3) scBehind.nd rfl (Or.inl rfl) (pe_callTy call_list_of (by rfl) T.i.list (by decide +kernel) (pa_cons (pv 1) pa_nil)))
      (pss_cons (ps_if (pt_cmpR op_eq (pe_ix ix_tup (pv 2) pe_int (fun _ _ => rfl)) pe_str (nomark _))
        (pss_cons (ps_asg pe_int (pg_sub (pv 3) (pe_ix ix_tup (pv 2) pe_int (fun _ _ => rfl)) set_list))
        (pss_cons (ps_asg (pe_ix ix_any (pv 1) (pe_ix ix_tup (pv 2) pe_int (fun _ _ => rfl)) (fun _ _ => rfl)) (pg_sub (pv 3) (pe_ix ix_tup (pv 2) pe_int (fun _ _ => rfl)) set_list))
        (pss_one (ps_ret (pv 3))))) pss_nil)
      (pss_cons (ps_set (i := 4) scBehind.nd rfl (Or.inl rfl) (pe_ix ix_tup (pe_fld (pv 0) rfl) (pe_ix ix_tup (pv 2) pe_int (fun _ _ => rfl)) (fun _ _ => rfl)))
      (pss_cons (ps_for PassesOwn.never rfl (pi_enumV (by rfl) T.enum (pv 4)) (pg_tup rfl (pgs_cons (pg_name (i := 5) scBehind.nd rfl (Or.inl rfl)) (pgs_cons (pg_name (i := 6) scBehind.nd rfl (Or.inl rfl)) pgs_nil)))
        (pss_one (ps_asg (pe_ix ix_any (pv 1) (pe_ix ix_tup (pv 4) (pe_op op_sub (pv 5) pe_int) (fun _ _ => rfl)) (fun _ _ => rfl)) (pg_sub (pv 3) (pv 6) set_list))))
      (pss_one (ps_ret (pv 3)))))), ?_⟩
    obtain ⟨C, dx, a, e, fs, tys, zs, hx, yc, lp, lt, lr, ha, pa, he, pe⟩ := id hy
    refine ⟨_, rfl, s, _, rfl, hs, fun g ng => ?_⟩
    have s1 := Same.new (o := .lst (st.map V.int)) ng
    have hm1 := Same.seqT s1 hm
    have hs1 := Same.seqA s1 hs
    cases m with
    | slide u v =>
      obtain ⟨_, ⟨a0, a1, b0, b1, _⟩, gu, gv⟩ := can
      have la : u.toNat < st.length := by have : u < n := a1; have : (0 : Int) ≤ u := a0; omega
      have lb : v.toNat < st.length := by have : v < n := b1; have : (0 : Int) ≤ v := b0; omega
      refine ⟨_, rfl, b, _, 0, _, rfl, rfl, hm1, atI_nat (j := 0) rfl, rfl, _, rfl, iteT ?_⟩
      refine ⟨_, rfl, _, rfl, b, _, 1, _, rfl, rfl, hm1, atI_nat (j := 1) rfl, g, _, u, u.toNat, rfl, rfl, upd_same, by rw [List.length_map]; exact ixN_ok a0 (by rw [hst]; exact a1), ?_⟩
      rw [upd_upd]
      have s2 := Same.new (o := .lst ((st.map V.int).set u.toNat (.int 0))) ng
      have hm2 := Same.seqT s2 hm
      refine ⟨_, rfl, _, rfl, b, _, 1, _, rfl, rfl, hm2, atI_nat (j := 1) rfl, s, _, u, _, rfl, rfl, Same.seqA s2 hs, atI_st a0 (by rw [hst]; exact a1), ?_⟩
      refine ⟨_, rfl, _, rfl, b, _, 2, _, rfl, rfl, hm2, atI_nat (j := 2) rfl, g, _, v, v.toNat, rfl, rfl, upd_same, by rw [List.length_set, List.length_map]; exact ixN_ok b0 (by rw [hst]; exact b1), ?_⟩
      rw [upd_upd, map_set, map_set]
      exact ⟨_, rfl, k g _ upd_same (Same.new ng)⟩
    | turn kk =>
      obtain ⟨k0', k1'⟩ : 0 ≤ kk ∧ kk < rs.length := can
      obtain ⟨g2, rr, eg, erg, hg, hlg⟩ := ring_at pe k0' k1'
      have ok := rok rr (List.mem_of_getElem? erg)
      refine ⟨_, rfl, b, _, 0, _, rfl, rfl, hm1, atI_nat (j := 0) rfl, rfl, _, rfl, iteF ?_⟩
      refine ⟨_, rfl, x, C, dx, fs, _, rfl, s1 _ _ hx, yc.c, yc.r, lr, ?_⟩
      refine ⟨_, rfl, b, _, 1, _, rfl, rfl, hm1, atI_nat (j := 1) rfl, ?_⟩
      refine ⟨e, zs, kk, _, rfl, rfl, Same.seqT s1 he, atI_int k0' eg, ?_⟩
      refine ⟨g2, rr.map V.int, H, rfl, .inr hg, .of_same s1, fun J G w1 hG => ?_⟩
      refine for_it w1 (fun i σ H' => ∃ (v5 v6 : Option V), σ = [some (.ref x), some (.ref s), some (.ref b), some (.ref g), some (.ref g2), v5, v6] ∧ H' g = some (.lst ((turnP rr st i).map V.int)) ∧ Same H H')
        ⟨none, none, rfl, upd_same, s1⟩ (fun i σ H' _ ⟨_, _, _, _, s⟩ => hG H' (.of_same s)) ?_ ?_
      · rintro i v σ H2 H3 hi ⟨v5, v6, rfl, eg2, s2⟩ ⟨T1, u, y, rfl, nT, rfl, e1, e2⟩
        cases Option.some.inj e1
        rw [List.length_map] at hi
        have hy2 := e2.symm.trans (getD_at hi)
        cases Option.some.inj hy2
        have s3 := s2.trans (Same.new (o := .tup [.int (i : Nat), .int (rr.getD i 0)]) nT)
        have eg3 := Same.new nT (o := .tup [.int (i : Nat), .int (rr.getD i 0)]) _ _ eg2
        have b1 := ok.2.1 _ (getD_mem hi)
        have b2 := ok.2.1 _ (getD_mem (prevI_lt hi))
        refine ⟨T1, _, rfl, SqT.of upd_same, rfl, _, _, rfl, _, _, rfl, rfl, ?_⟩
        refine ⟨_, rfl, _, rfl, _, rfl, _, _, rfl, rfl, g2, _, _, _, rfl, rfl, Same.seqT s3 hg, atI_prev hi, ?_⟩
        refine ⟨s, _, _, _, rfl, rfl, Same.seqA s3 hs, atI_st b2.1 (by rw [hst]; exact b2.2), ?_⟩
        refine ⟨_, rfl, _, rfl, g, _, _, (rr.getD i 0).toNat, rfl, rfl, eg3, by rw [List.length_map, turnP_len, hst]; exact ixN_ok b1.1 b1.2, ?_⟩
        refine ⟨_, _, rfl, ?_, Same.upd_new s3 ng⟩
        rw [upd_same, map_set, turnP_succ]
        rfl
      · rintro σ H2 ⟨v5, v6, rfl, eg2, s2⟩
        rw [List.length_map, turnP_eq ok hst] at eg2
        refine ⟨_, rfl, k g H2 ?_ s2⟩
        rw [eg2]
        show some (HO.lst ((turnTo rr st rr.length).map V.int)) = some (HO.lst ((turnTo (rs.getD kk.toNat []) st (rs.getD kk.toNat []).length).map V.int))
        rw [List.getD_eq_getElem?_getD, erg]
        rfl
theorem scBehindAll : FnScope ["yard", "stand", "moves", "now", "index", "move"] ["yard", "stand", "moves"] (defScope sBehindAll) := ⟨rfl, rfl, rfl, by decide +kernel, rfl, by decide +kernel, by decide +kernel⟩
theorem ok_behindAll {f : Addr} {fd fdM fdC fdB : FuncData} (F : Fun K "behind_all" "behind_all" sBehindAll f fd) (T : TPl K mg fInt fRow fIsS fMove fCan fBeh fAll fCnt) (GM : FnOk P w K mg base CX0 2 fMove fdM ["yard", "value"] (spIsMove K)) (FM : Fun K "is_move" "is_move" sIsMove fMove fdM) (bM : Binds K fdM ["yard", "value"] [])
    (FC : Fun K "can_be_made" "can_be_made" sCanBe fCan fdC) (bC : Binds K fdC ["stand", "move"] []) (FB : Fun K "behind_move" "behind_move" sBehind fBeh fdB) (bB : Binds K fdB ["yard", "stand", "move"] []) :
    FnOk P w K mg base CX0 3 f fd ["yard", "stand", "moves"] (spBehindAll K) := by
  have GC : FnOk P w K mg base CX0 1 fCan fdC ["stand", "move"] (spCanBe K) := ok_canBe FC
  have GB : FnOk P w K mg base CX0 1 fBeh fdB ["yard", "stand", "move"] (spBehind K) := ok_behind FB T
  refine F.ok scBehindAll (fun vs H Q E h => ?_) (fun cdv A outer s H vs Q E hr h => ?_)
  · obtain ⟨x, s, l, n, ts, rs, st, ys, ms, rfl, _⟩ := h
    rfl
  · obtain ⟨x, s, l, n, ts, rs, st, ys, ms, rfl, hy, n1000, rok, hs, hst, hl, pm, can, k⟩ := h
    have hr1 : Room 1 _ := hr.mono (by decide)
    refine ⟨_, pss_cons (ps_set (i := 3) scBehindAll.nd rfl (Or.inl rfl) (pv 1))
      (pss_cons (ps_for PassesOwn.never rfl (pi_enumV (by rfl) T.enum (pv 2)) (pg_tup rfl (pgs_cons (pg_name (i := 4) scBehindAll.nd rfl (Or.inl rfl)) (pgs_cons (pg_name (i := 5) scBehindAll.nd rfl (Or.inl rfl)) pgs_nil)))
        (pss_cons (ps_if (PW.pt (pw_or (pt_not (pt_val (pe_call GM hr (by rfl) T.gMove FM.kp bM .nil pass0 (pa_cons (pv 0) (pa_cons (pv 5) pa_nil))))) (pw_or1 (pt_not (pt_val (pe_call GC hr1 (by rfl) T.gCan FC.kp bC .nil pass0 (pa_cons (pv 3) (pa_cons (pv 5) pa_nil)))))))) (pss_one ps_never) pss_nil)
        (pss_one (ps_set (i := 3) scBehindAll.nd rfl (Or.inl rfl) (pe_call GB hr1 (by rfl) T.gBeh FB.kp bB .nil pass0 (pa_cons (pv 0) (pa_cons (pv 3) (pa_cons (pv 5) pa_nil))))))))
      (pss_one (ps_ret (pe_callTy call_tuple_any (by rfl) T.i.tuple (by decide +kernel) (pa_cons (pv 3) pa_nil))))), ?_⟩
    have hlen : ys.length = ms.length := Paired.length pm
    refine ⟨_, rfl, l, ys, H, rfl, hl, .refl H, fun J G w1 hG => ?_⟩
    refine for_it w1 (fun i σ H' => ∃ (cur : Addr) (v4 v5 : Option V), σ = [some (.ref x), some (.ref s), some (.ref l), some (.ref cur), v4, v5] ∧ SqA K H' cur ((playMvs rs st (ms.take i)).map V.int) ∧ Same H H')
      ⟨s, none, none, rfl, hs, Same.refl' H⟩ (fun i σ H' _ ⟨_, _, _, _, _, s⟩ => hG H' (.of_same s)) ?_ ?_
    · rintro i v σ H2 H3 hi ⟨cur, v4, v5, rfl, hc, s2⟩ ⟨T1, u, y, rfl, nT, rfl, e1, e2⟩
      cases Option.some.inj e1
      obtain ⟨m, em, hm⟩ := par_get pm e2
      have cm := can_get can em
      have s3 := s2.trans (Same.new (o := .tup [.int (i : Nat), y]) nT)
      have hc3 := Same.seqA (Same.new (o := .tup [.int (i : Nat), y]) nT) hc
      refine ⟨T1, _, rfl, SqT.of upd_same, rfl, _, _, rfl, _, _, rfl, rfl, ?_⟩
      refine ⟨_, rfl, _, rfl, x, y, n, ts, rs, m, rfl, hy.kp (.of_same s3), hm.kp (.of_same s3), can_in cm, fun H4 s4 => ⟨_, rfl, iteF ?_⟩⟩
      have s34 := s3.trans s4
      have hc4 := Same.seqA s4 hc3
      refine ⟨_, rfl, _, rfl, cur, y, n, ts, rs, _, m, rfl, hc4, by rw [play_len, hst], hm.kp (.of_same s34), cm, _, rfl, iteF ?_⟩
      refine ⟨_, rfl, _, rfl, _, rfl, x, cur, y, n, ts, rs, _, m, rfl, hy.kp (.of_same s34), n1000, rok, hc4, by rw [play_len, hst], hm.kp (.of_same s34), cm, fun g H5 eg s5 => ?_⟩
      refine ⟨g, _, _, rfl, ?_, s34.trans s5⟩
      rw [take_next em, play_snoc]
      exact .inl (SqL.of eg)
    · rintro σ H2 ⟨cur, v4, v5, rfl, hc, s2⟩
      rw [hlen, List.take_length] at hc
      exact ⟨_, rfl, cur, _, rfl, hc, fun t H3 ht s3 => k t H3 ht (s2.trans s3)⟩
theorem scPlayed : FnScope ["yard", "stand", "moves"] ["yard", "stand", "moves"] (defScope sPlayed) := ⟨rfl, rfl, rfl, by decide +kernel, rfl, by decide +kernel, by decide +kernel⟩
theorem ok_played {f : Addr} {fd fdS fdA : FuncData} (F : Fun K "played" "played" sPlayed f fd) (T : TPl K mg fInt fRow fIsS fMove fCan fBeh fAll fCnt) (GS : FnOk P w K mg base CX0 3 fIsS fdS ["yard", "value"] (spIsStand K)) (FS : Fun K "is_stand_row" "is_stand_row" sIsStand fIsS fdS) (bS : Binds K fdS ["yard", "value"] [])
    (GA : FnOk P w K mg base CX0 3 fAll fdA ["yard", "stand", "moves"] (spBehindAll K)) (FA : Fun K "behind_all" "behind_all" sBehindAll fAll fdA) (bA : Binds K fdA ["yard", "stand", "moves"] []) :
    FnOk P w K mg base CX0 4 f fd ["yard", "stand", "moves"] (spPlayed K) := by
  refine F.ok scPlayed (fun vs H Q E h => ?_) (fun cdv A outer s H vs Q E hr h => ?_)
  · obtain ⟨x, s, l, n, ts, rs, st, ys, ms, rfl, _⟩ := h
    rfl
  · obtain ⟨x, s, l, n, ts, rs, st, ys, ms, rfl, hy, n1000, rok, hs, hst, pos, hl, pm, can, k⟩ := h
    refine ⟨_, pss_cons (ps_if (pt_not (pt_val (pe_call GS (hr.mono (by decide)) (by rfl) T.gIsS FS.kp bS .nil pass0 (pa_cons (pv 0) (pa_cons (pv 1) pa_nil))))) (pss_one ps_never) pss_nil)
      (pss_one (ps_ret (pe_call GA hr (by rfl) T.gAll FA.kp bA .nil pass0 (pa_cons (pv 0) (pa_cons (pv 1) (pa_cons (pv 2) pa_nil)))))), ?_⟩
    refine ⟨_, rfl, _, rfl, x, _, n, ts, rs, st, rfl, hy, ⟨s, rfl, hs⟩, hst, n1000, pos, fun H1 s1 => ⟨_, rfl, iteF ?_⟩⟩
    refine ⟨_, rfl, _, rfl, _, rfl, x, s, l, n, ts, rs, st, ys, ms, rfl, hy.kp (.of_same s1), n1000, rok, Same.seqA s1 hs, hst, Same.seqA s1 hl, par_map (fun y m h => h.kp (.of_same s1)) pm, can, fun t H2 ht s2 => k t H2 ht (s1.trans s2)⟩
end
end Y
set_option Elab.async false
set_option linter.all false
set_option maxRecDepth 100000
set_option maxHeartbeats 4000000
namespace Y
open PySem L2
abbrev sTaken : Stmt := top 22
def spTaken (K : PySem.W.Frag) : Sp := fun vs H Q _ => ∃ (x l : Addr) (n : Nat) (ts : List (Int × Int)) (rs : List (List Int)) (ys : List V) (ms : List Mv), vs = [.ref x, .ref l] ∧ YObj K H x n ts rs ∧ (∀ r ∈ rs, r.length ≤ 100 ∧ 1 ≤ r.length) ∧ (SqL K H l ys ∨ SqT K H l ys) ∧ MvsAt K H ys ms ∧ ms.length ≤ 100 ∧ (∀ m ∈ ms, MvIn ts rs m) ∧
  ∀ v H', TkAt K H' v (backs ts rs ms.reverse) → Same H H' → Q v H'
structure TT0 (K : PySem.W.Frag) (mg : Str → Option Value) (fMove : Addr) : Prop where
  enum : mg "enumerate" = none
  rev : mg "reversed" = none
  tuple : mg "tuple" = none
  len : mg "len" = none
  gMove : mg "is_move" = some (.ref fMove)
section
variable {P : Program} {w : World} {K : PySem.W.Frag} {mg : Str → Option Value} {base : Heap} {fMove : Addr}
theorem scTaken : FnScope ["yard", "moves", "index", "move", "back"] ["yard", "moves"] (defScope sTaken) := ⟨rfl, rfl, rfl, by decide +kernel, rfl, by decide +kernel, by decide +kernel⟩
theorem ok_taken {f : Addr} {fd fdM : FuncData} (F : Fun K "taken_back" "taken_back" sTaken f fd) (T : TT0 K mg fMove) (GM : FnOk P w K mg base CX0 2 fMove fdM ["yard", "value"] (spIsMove K)) (FM : Fun K "is_move" "is_move" sIsMove fMove fdM) (bM : Binds K fdM ["yard", "value"] []) : FnOk P w K mg base CX0 3 f fd ["yard", "moves"] (spTaken K) := by
  refine F.ok scTaken (fun vs H Q E h => ?_) (fun cdv A outer s H vs Q E hr h => ?_)
  · obtain ⟨x, l, n, ts, rs, ys, ms, rfl, _⟩ := h
    rfl
  · obtain ⟨x, l, n, ts, rs, ys, ms, rfl, hy, hrs, hl, pm, h100, mok, kall⟩ := h
    have k0 : backs ts rs ms.reverse = none → ∀ H', Same H H' → Q .non H' := fun e H' s => kall .non H' (by rw [e]; exact rfl) s
    have k1 : ∀ bs, backs ts rs ms.reverse = some bs → ∀ t ws H', H' t = some (.tup ws) → MvsAt K H' ws bs → Same H H' → Q (.ref t) H' := fun bs e t ws H' et p s => kall (.ref t) H' (by rw [e]; exact ⟨t, ws, rfl, SqT.of et, p⟩) s
    have hu := hr.units
    refine ⟨_, pss_cons (ps_for PassesOwn.never rfl (pi_enumV (by rfl) T.enum (pv 1)) (pg_tup rfl (pgs_cons (pg_name (i := 2) scTaken.nd rfl (Or.inl rfl)) (pgs_cons (pg_name (i := 3) scTaken.nd rfl (Or.inl rfl)) pgs_nil)))
        (pss_one (ps_if (pt_not (pt_val (pe_call GM hr (by rfl) T.gMove FM.kp bM .nil pass0 (pa_cons (pv 0) (pa_cons (pv 3) pa_nil))))) (pss_one ps_never) pss_nil)))
      (pss_cons (ps_set (i := 4) scTaken.nd rfl (Or.inl rfl) (pe_lst pa_nil))
      (pss_cons (ps_for PassesOwn.never rfl (pi_revV (by rfl) T.rev (pv 1)) (pg_name (i := 3) scTaken.nd rfl (Or.inl rfl))
        (pss_one (ps_if (pt_cmpR op_eq (pe_ix ix_tup (pv 3) pe_int (fun _ _ => rfl)) pe_str (nomark _))
          (pss_one (ps_expr (pe_bm PySem.F.plainAttrs_list PySem.F.slot_list_extend PySem.F.type_list_extend mt_extend (pv 4) (pa_cons (pe_op op_rep (pe_lst (pa_cons (pv 3) pa_nil)) (pe_op op_sub (pe_callB call_len_seq (by rfl) T.len PySem.boot_len (pa_cons (pe_ix ix_tup (pe_fld (pv 0) rfl) (pe_ix ix_tup (pv 3) pe_int (fun _ _ => rfl)) (fun _ _ => rfl)) pa_nil)) pe_int)) pa_nil))))
          (pss_one (ps_if (pt_cmpR (op_tieIn hu) (pe_tup (pa_cons (pe_ix ix_tup (pv 3) pe_int (fun _ _ => rfl)) (pa_cons (pe_ix ix_tup (pv 3) pe_int (fun _ _ => rfl)) pa_nil))) (pe_fld (pv 0) rfl) (by rfl))
            (pss_one (ps_expr (pe_bm PySem.F.plainAttrs_list PySem.F.slot_list_append PySem.F.type_list_append mt_append (pv 4) (pa_cons (pe_tup (pa_cons pe_str (pa_cons (pe_ix ix_tup (pv 3) pe_int (fun _ _ => rfl)) (pa_cons (pe_ix ix_tup (pv 3) pe_int (fun _ _ => rfl)) pa_nil)))) pa_nil))))
            (pss_one (ps_ret pe_non)))))))
      (pss_one (ps_ret (pe_callTy call_tuple_of (by rfl) T.tuple (by decide +kernel) (pa_cons (pv 4) pa_nil)))))), ?_⟩
    obtain ⟨C, dx, a, e, fs, tys, zs, hx, yc, lp, lt, lr, ha, pa, he, pe⟩ := id hy
    have hlen : ys.length = ms.length := Paired.length pm
    refine ⟨l, ys, H, rfl, hl, Kp.refl H, fun J G w1 hG => ?_⟩
    refine for_it w1 (fun i σ H1 => ∃ (vi vm : Option V), σ = [some (.ref x), some (.ref l), vi, vm, none] ∧ Same H H1) ⟨none, none, rfl, Same.refl' H⟩ (fun i σ H1 _ ⟨_, _, _, s⟩ => hG H1 (.of_same s)) ?_ ?_
    · rintro i v σ H1 H2 hi ⟨vi, vm, rfl, s1⟩ ⟨T1, u, y, rfl, nT, rfl, e1, e2⟩
      cases Option.some.inj e1
      have s2 := s1.trans (Same.new (o := .tup [.int (i : Nat), y]) nT)
      obtain ⟨m, em, hm⟩ := par_get pm e2
      refine ⟨T1, _, rfl, SqT.of upd_same, rfl, _, _, rfl, _, _, rfl, rfl, ?_⟩
      refine ⟨_, rfl, _, rfl, x, y, n, ts, rs, m, rfl, hy.kp (.of_same s2), hm.kp (.of_same s2), mok m (List.mem_of_getElem? em), fun H3 s3 => ?_⟩
      exact ⟨_, rfl, iteF ⟨_, _, rfl, s2.trans s3⟩⟩
    rintro σ H1 ⟨vi, vm, rfl, s1⟩
    refine ⟨(by show 0 ≤ sizeLine; decide), fun f0 nf0 => ?_⟩
    have S0 : Same H (upd H1 f0 (.lst [])) := s1.trans (Same.new nf0)
    have nfH : H f0 = none := s1.free nf0
    refine ⟨l, ys, H, rfl, hl, .of_same S0, fun J2 G2 w2 hG2 => ?_⟩
    refine for_it w2 (fun i σ H' => ∃ (vm : Option V) (ws : List V) (bs : List Mv), σ = [some (.ref x), some (.ref l), vi, vm, some (.ref f0)] ∧ H' f0 = some (.lst ws) ∧ MvsAt K H' ws bs ∧ backs ts rs (ms.reverse.take i) = some bs ∧ bs.length ≤ 100 * i ∧ Same H H')
      ⟨vm, [], [], rfl, upd_same, .nil, rfl, Nat.le_refl 0, S0⟩ (fun i σ H2 hi ⟨_, _, _, _, _, _, _, _, s⟩ => hG2 H2 (.of_same s)) ?_ ?_
    · rintro i v σ H2 H2' hi ⟨vm, ws, bs, rfl, ef, pw, hb, lb, s2⟩ ⟨rfl, hx2⟩
      obtain ⟨m, em, b, rfl, hm⟩ := par_get pm hx2
      have em' : ms.reverse[i]? = some m := by rw [List.getElem?_reverse (by omega), ← hlen]; exact em
      have hmem : m ∈ ms := List.mem_of_getElem? em
      have hm1 := Same.seqT s2 hm
      have tk := take_next em'
      have lw : ws.length = bs.length := Paired.length pw
      have hx1 := s2 _ _ hx
      cases m with
      | turn kk =>
        obtain ⟨k0', k1'⟩ : 0 ≤ kk ∧ kk < rs.length := mok _ hmem
        obtain ⟨g, rr, eg, erg, hg, hlg⟩ := ring_at pe k0' k1'
        obtain ⟨r100, r1⟩ := hrs rr (List.mem_of_getElem? erg)
        refine ⟨_, rfl, b, _, 0, _, rfl, rfl, hm1, atI_nat (j := 0) rfl, rfl, _, rfl, ?_⟩
        refine iteT ?_
        refine ⟨_, rfl, .inl ⟨rfl, _, SqL.of ef⟩, _, rfl, (by show 1 ≤ sizeLine; decide), fun o no => ?_⟩
        have s3 := s2.trans (Same.new (o := .lst [.ref b]) no)
        refine ⟨_, rfl, x, C, dx, fs, _, rfl, s3 _ _ hx, yc.c, yc.r, lr, ?_⟩
        refine ⟨_, rfl, b, _, 1, _, rfl, rfl, Same.seqT s3 hm, atI_nat (j := 1) rfl, ?_⟩
        refine ⟨e, zs, kk, _, rfl, rfl, Same.seqT s3 he, atI_int k0' eg, ?_⟩
        refine ⟨g, _, rfl, .inr (Same.seqT s3 hg), _, _, rfl, rfl, ?_⟩
        rw [List.length_map]
        have hrep : ((rr.length : Int) - 1).toNat = rr.length - 1 := by omega
        refine ⟨o, (rr.length : Int) - 1, [.ref b], rfl, rfl, upd_same, by omega, by omega, Nat.le_trans (by rw [hrep]; show 1 * (rr.length - 1) ≤ 100; omega) (by decide), fun o2 no2 => ?_⟩
        rw [hrep, rep_flat]
        have ef3 := Same.new no2 (o := .lst (List.replicate (rr.length - 1) (V.ref b))) _ _ (Same.new no (o := .lst [.ref b]) _ _ ef)
        refine ⟨f0, o2, ws, _, rfl, rfl, ef3, upd_same, Nat.le_trans (by rw [List.length_replicate, lw]; omega : ws.length + (List.replicate (rr.length - 1) (V.ref b)).length ≤ 10200) (by decide), ?_⟩
        have s4 := s3.trans (Same.new (o := .lst (List.replicate (rr.length - 1) (V.ref b))) no2)
        refine ⟨_, ws ++ List.replicate (rr.length - 1) (.ref b), bs ++ List.replicate (rr.length - 1) (.turn kk), rfl, upd_same, par_app (par_map (fun y m h => ((h.kp (.new no)).kp (.new no2)).off ef3) pw) (par_rep ⟨b, rfl, seqT_off (Same.seqT s4 hm) ef3⟩ _), ?_, by rw [List.length_append, List.length_replicate]; omega, Same.upd_new s4 nfH⟩
        rw [tk, backs_snoc hb]
        show some (bs ++ List.replicate (ringLen rs kk - 1) (.turn kk)) = _
        rw [hlg]
      | slide u w0 =>
        refine ⟨_, rfl, b, _, 0, _, rfl, rfl, hm1, atI_nat (j := 0) rfl, rfl, _, rfl, ?_⟩
        refine iteF ?_
        refine ⟨_, rfl, b, _, 2, _, rfl, rfl, hm1, atI_nat (j := 2) rfl, _, rfl, b, _, 1, _, rfl, rfl, hm1, atI_nat (j := 1) rfl, (by show 2 ≤ sizeLine; decide), fun t nt => ?_⟩
        have s3 := s2.trans (Same.new (o := .tup [.int w0, .int u]) nt)
        refine ⟨_, rfl, x, C, dx, fs, _, rfl, s3 _ _ hx, yc.c, yc.t, lt, ?_⟩
        refine ⟨a, tys, ts, (w0, u), rfl, Same.seqT s3 ha, ties_kp pa (.of_same s3), ⟨t, rfl, SqT.of upd_same⟩, _, rfl, ?_⟩
        refine ifT (fun hin => ?_) (fun hin => ?_)
        · have hin' : (w0, u) ∈ ts := of_decide_eq_true hin
          have ef2 := Same.new nt (o := .tup [.int w0, .int u]) _ _ ef
          have hm3 := Same.seqT s3 hm
          refine ⟨_, rfl, .inl ⟨rfl, _, SqL.of ef2⟩, _, rfl, b, _, 2, _, rfl, rfl, hm3, atI_nat (j := 2) rfl, _, rfl, b, _, 1, _, rfl, rfl, hm3, atI_nat (j := 1) rfl, (by show 3 ≤ sizeLine; decide), fun t2 nt2 => ?_⟩
          have ef3 := Same.new nt2 (o := .tup [.str "slide", .int w0, .int u]) _ _ ef2
          refine ⟨f0, ws, _, rfl, rfl, ef3, Nat.lt_of_le_of_lt (by omega : ws.length ≤ 10000) (by decide), ?_⟩
          have s4 := s3.trans (Same.new (o := .tup [.str "slide", .int w0, .int u]) nt2)
          refine ⟨_, ws ++ [.ref t2], bs ++ [.slide w0 u], rfl, upd_same, ?_, ?_, by rw [List.length_append]; show bs.length + 1 ≤ _; omega, Same.upd_new s4 nfH⟩
          · exact par_snoc (par_map (fun v m h => ((h.kp (.new nt)).kp (.new nt2)).off ef3) pw) ⟨t2, rfl, seqT_off (SqT.of upd_same) ef3⟩
          · rw [tk, backs_snoc hb]
            show (if (w0, u) ∈ ts then some [Mv.slide w0 u] else none).map (bs ++ ·) = _
            rw [if_pos hin']
            rfl
        · have hin' : (w0, u) ∉ ts := of_decide_eq_false hin
          refine k0 ?_ _ s3
          have hsplit : ms.reverse = ms.reverse.take i ++ .slide u w0 :: ms.reverse.drop (i + 1) := by
            have h1 : ms.reverse.take (i + 1) ++ ms.reverse.drop (i + 1) = ms.reverse := List.take_append_drop _ _
            rw [tk, List.append_assoc] at h1
            exact h1.symm
          rw [hsplit]
          exact backs_fail (if_neg hin')
    · rintro σ H2 ⟨vm, ws, bs, rfl, ef, pw, hb, lb, s2⟩
      rw [hlen, ← List.length_reverse, List.take_length] at hb
      exact ⟨_, rfl, f0, _, rfl, .inl ⟨SqL.of ef, fun t nt => k1 bs hb t ws _ upd_same (par_map (fun v m h => h.kp (.new nt)) pw) (s2.trans (Same.new nt))⟩⟩
end
end Y
set_option Elab.async false
set_option linter.all false
set_option maxRecDepth 100000
set_option maxHeartbeats 4000000
namespace Y
open PySem L2
/-! ### moves and ints as data -/
def mvD : Mv → PyData
  | .slide a b => .tuple [.str "slide", .int a, .int b]
  | .turn k => .tuple [.str "turn", .int k]
theorem mv_dp {K : PySem.W.Frag} {H : Hp} {y : V} {m : Mv} (h : MvAt K H y m) : Dp K H y (mvD m) := by
  obtain ⟨b, rfl, h⟩ := h
  cases m with
  | slide u v => exact .tup h (.cons (.str _) (.cons (.int _) (.cons (.int _) .nil)))
  | turn k => exact .tup h (.cons (.str _) (.cons (.int _) .nil))
theorem mvs_dp {K : PySem.W.Frag} {H : Hp} {ys : List V} {ms : List Mv} (h : MvsAt K H ys ms) : DpAll K H ys (ms.map mvD) := by
  induction h with
  | nil => exact .nil
  | cons a _ ih => exact .cons (mv_dp a) ih
theorem mv_self (m : Mv) : PyData.eqv (mvD m) (mvD m) = true := by cases m <;> simp [mvD, PyData.eqv, PyData.eqvAll]
theorem mvs_self : ∀ ms : List Mv, PyData.eqvAll (ms.map mvD) (ms.map mvD) = true
  | [] => rfl
  | m :: ms => by
    rw [List.map_cons]
    show (PyData.eqv (mvD m) (mvD m) && PyData.eqvAll (ms.map mvD) (ms.map mvD)) = true
    rw [mv_self, mvs_self ms]
    rfl
theorem mv_lay (m : Mv) : (mvD m).canLay0 = true := by cases m <;> simp [mvD, PyData.canLay0, PyData.canLayAll0] <;> decide +kernel
theorem mvs_lay : ∀ ms : List Mv, PyData.canLayAll0 (ms.map mvD) = true
  | [] => rfl
  | m :: ms => by
    rw [List.map_cons]
    show ((mvD m).canLay0 && PyData.canLayAll0 (ms.map mvD)) = true
    rw [mv_lay, mvs_lay ms]
    rfl
theorem mv_depth (m : Mv) : (mvD m).depth ≤ 10 := by cases m <;> simp [mvD, PyData.depth, PyData.depthAll]
theorem mvs_depth : ∀ ms : List Mv, PyData.depthAll (ms.map mvD) ≤ 10
  | [] => Nat.zero_le _
  | m :: ms => by
    rw [List.map_cons]
    exact Nat.max_le.mpr ⟨mv_depth m, mvs_depth ms⟩
theorem mvs_shaped (ms : List Mv) : SeqAt.shaped (.tuple (ms.map mvD)) = true := by
  unfold SeqAt.shaped
  have h1 : (PyData.tuple (ms.map mvD)).canLay0 = true := mvs_lay ms
  have h2 : (PyData.tuple (ms.map mvD)).depth ≤ 64 := Nat.le_trans (Nat.succ_le_succ (mvs_depth ms)) (by decide)
  rw [h1, decide_eq_true h2]
  rfl
theorem mvs_shapedL (ms : List Mv) : SeqAt.shaped (.list (ms.map mvD)) = true := by
  unfold SeqAt.shaped
  have h1 : (PyData.list (ms.map mvD)).canLay0 = true := mvs_lay ms
  have h2 : (PyData.list (ms.map mvD)).depth ≤ 64 := Nat.le_trans (Nat.succ_le_succ (mvs_depth ms)) (by decide)
  rw [h1, decide_eq_true h2]
  rfl
/-- what taking back tells, as data -/
def tkD : Option (List Mv) → PyData
  | none => .none
  | some bs => .tuple (bs.map mvD)
theorem tk_dp {K : PySem.W.Frag} {H : Hp} {v : V} {o : Option (List Mv)} (h : TkAt K H v o) : Dp K H v (tkD o) := by
  cases o with
  | none => rw [show v = .non from h]; exact .non
  | some bs =>
    obtain ⟨t, ws, rfl, h1, h2⟩ := h
    exact .tup h1 (mvs_dp h2)
theorem tk_shaped (o : Option (List Mv)) : SeqAt.shaped (tkD o) = true := by
  cases o with
  | none => rfl
  | some bs => exact mvs_shaped bs
theorem tk_self (o : Option (List Mv)) : PyData.eqv (tkD o) (tkD o) = true := by
  cases o with
  | none => rfl
  | some bs => exact mvs_self bs
/-! ints -/
theorem ints_dp {K : PySem.W.Frag} {H : Hp} : ∀ ns : List Int, DpAll K H (ns.map V.int) (ns.map PyData.int)
  | [] => .nil
  | n :: ns => .cons (.int n) (ints_dp ns)
theorem ints_self : ∀ ns : List Int, PyData.eqvAll (ns.map PyData.int) (ns.map PyData.int) = true
  | [] => rfl
  | n :: ns => by
    show ((n == n) && PyData.eqvAll (ns.map PyData.int) (ns.map PyData.int)) = true
    rw [ints_self ns, beq_self_eq_true]
    rfl
theorem ints_shaped (ns : List Int) : SeqAt.shaped (.tuple (ns.map PyData.int)) = true := by
  have lay : ∀ ns : List Int, PyData.canLayAll0 (ns.map PyData.int) = true := fun ns => by
    induction ns with
    | nil => rfl
    | cons n ns ih => show (true && PyData.canLayAll0 (ns.map PyData.int)) = true; rw [ih]; rfl
  have dep : ∀ ns : List Int, PyData.depthAll (ns.map PyData.int) ≤ 0 := fun ns => by
    induction ns with
    | nil => exact Nat.le_refl _
    | cons n ns ih => exact Nat.max_le.mpr ⟨Nat.le_refl _, ih⟩
  unfold SeqAt.shaped
  have h1 : (PyData.tuple (ns.map PyData.int)).canLay0 = true := lay ns
  have h2 : (PyData.tuple (ns.map PyData.int)).depth ≤ 64 := Nat.le_trans (Nat.succ_le_succ (dep ns)) (by decide)
  rw [h1, decide_eq_true h2]
  rfl
/-! what is played stays from 0 on -/
theorem gAt_pos {st : List Int} (h : ∀ z ∈ st, 0 ≤ z) (i : Int) : 0 ≤ gAt st i := by
  unfold gAt
  rw [List.getD_eq_getElem?_getD]
  cases e : st[i.toNat]? with
  | none => exact Int.le_refl 0
  | some z => exact h z (List.mem_of_getElem? e)
theorem set_pos {st : List Int} {i : Nat} {v : Int} (h : ∀ z ∈ st, 0 ≤ z) (hv : 0 ≤ v) : ∀ z ∈ st.set i v, 0 ≤ z := fun z hz => by
  rcases List.mem_or_eq_of_mem_set hz with hz | rfl
  · exact h z hz
  · exact hv
theorem turnTo_pos {r st : List Int} (h : ∀ z ∈ st, 0 ≤ z) : ∀ m, ∀ z ∈ turnTo r st m, 0 ≤ z
  | 0 => h
  | m + 1 => by rw [turnTo_succ]; exact set_pos (turnTo_pos h m) (gAt_pos h _)
theorem step_pos {rs : List (List Int)} {st : List Int} {m : Mv} (h : ∀ z ∈ st, 0 ≤ z) : ∀ z ∈ stepMv rs st m, 0 ≤ z := by
  cases m with
  | slide a b => exact set_pos (set_pos h (Int.le_refl 0)) (gAt_pos h _)
  | turn k => exact turnTo_pos h _
theorem play_pos {rs : List (List Int)} : ∀ {ms : List Mv} {st : List Int}, (∀ z ∈ st, 0 ≤ z) → ∀ z ∈ playMvs rs st ms, 0 ≤ z
  | [], _, h => h
  | m :: ms, st, h => play_pos (ms := ms) (st := stepMv rs st m) (step_pos h)
theorem can_mvIn {n : Nat} {ts : List (Int × Int)} {rs : List (List Int)} : ∀ {ms : List Mv} {st : List Int}, CanAll n ts rs st ms → ∀ m ∈ ms, MvIn ts rs m
  | [], _, _, m, h => by cases h
  | a :: l, st, c, m, h => by
    rcases List.mem_cons.mp h with rfl | h
    · exact can_in c.1
    · exact can_mvIn (ms := l) (st := stepMv rs st a) c.2 m h
theorem mvIn_ok {ts : List (Int × Int)} {rs : List (List Int)} {m : Mv} (h : MvIn ts rs m) : MvOk rs m := by
  cases m with
  | slide a b => trivial
  | turn k => exact h
theorem all_mvIn {ts : List (Int × Int)} {rs : List (List Int)} {m : Mv} (h : m ∈ allMoves ts rs) : MvIn ts rs m := by
  unfold allMoves turns at h
  rcases List.mem_append.mp h with h | h
  · obtain ⟨t, ht, rfl⟩ := List.mem_map.mp h
    exact ht
  · obtain ⟨k, hk, rfl⟩ := List.mem_map.mp h
    rw [List.mem_range] at hk
    exact ⟨by omega, by omega⟩
end Y
set_option Elab.async false
set_option linter.all false
set_option maxRecDepth 100000
set_option maxHeartbeats 4000000
namespace Y
open PySem L2
abbrev sLaw : Stmt := top 40
def spLaw (K : PySem.W.Frag) : Sp := fun vs H Q _ => ∃ (a : Addr) (ns : List Int), vs = [.ref a] ∧ SqL K H a (ns.map V.int) ∧ ns.length ≤ 63 ∧ ∀ H', Q (.bl true) H'
structure TLw (K : PySem.W.Frag) (mg : Str → Option Value) (fDraw fPick fPen fSome fMade fStand fSMoves fTaken fBack fPlayed fAll : Addr) : Prop where
  p : TxP K mg fDraw
  range : mg "range" = none
  tuple : mg "tuple" = none
  min : mg "min" = none
  gPick : mg "_law_pick" = some (.ref fPick)
  gPen : mg "_law_pen" = some (.ref fPen)
  gSome : mg "_law_some_yard" = some (.ref fSome)
  gMade : mg "_law_made_yard" = some (.ref fMade)
  gStand : mg "_law_drawn_stand" = some (.ref fStand)
  gSMoves : mg "_law_some_moves" = some (.ref fSMoves)
  gTaken : mg "taken_back" = some (.ref fTaken)
  gBack : mg "_law_back" = some (.ref fBack)
  gPlayed : mg "played" = some (.ref fPlayed)
  gAll : mg "_law_all_moves" = some (.ref fAll)
section
variable {P : Program} {w : World} {K : PySem.W.Frag} {mg : Str → Option Value} {base : Heap} {fDraw fPick fPen fSome fMade fStand fSMoves fTaken fBack fPlayed fAll : Addr}
abbrev NLaw : List Str := ["_law_script", "_law_pen_here", "_law_lap", "_law_yard", "_law_made", "_law_stand", "_law_moves_here", "_law_told", "_law_due", "_law_some", "_law_row", "_law_turn"]
/-- a test whose outcome does not matter: what follows follows from any heap -/
theorem ifGo {c : Bool} {A : Prop} {R : Hp → Prop} {H : Hp} {p l : Addr} {b : Nat} (P : Pen H p l b) (rest : ∀ H', Kp H H' → Pen H' p l b → R H') (h : c = true → (∀ H', Kp H H' → Pen H' p l b → R H') → A) : if c = true then A else R H := by
  cases c with
  | true => rw [if_pos rfl]; exact h rfl rest
  | false => rw [if_neg Bool.false_ne_true]; exact rest H (.refl H) P
theorem pick2 {K : PySem.W.Frag} {H : Hp} {l t : Addr} {xs : List V} {j : Nat} {v : V} (h : ([.ref l, .ref t] : List V)[j]? = some v) (hl : SqL K H l xs) (ht : SqT K H t xs) : ∃ a, v = .ref a ∧ SqA K H a xs := by
  match j with
  | 0 => exact ⟨l, (Option.some.inj h).symm, .inl hl⟩
  | 1 => exact ⟨t, (Option.some.inj h).symm, .inr ht⟩
  | j + 2 => simp at h
theorem scLaw : FnScope NLaw ["_law_script"] (defScope sLaw) := ⟨rfl, rfl, rfl, by decide +kernel, rfl, by decide +kernel, by decide +kernel⟩
theorem ok_law {f : Addr} {fd fdD fdK fdPen fdS fdM fdSt fdSM fdT fdB fdP fdA : FuncData} (F : Fun K "law" "law" sLaw f fd) (T : TLw K mg fDraw fPick fPen fSome fMade fStand fSMoves fTaken fBack fPlayed fAll)
    (GD : FnOk P w K mg base CX0 1 fDraw fdD ["_law_pen_here", "_law_many"] spDraw) (FD : Fun K "_law_draw" "_law_draw" sDraw fDraw fdD) (bD : Binds K fdD ["_law_pen_here", "_law_many"] [])
    (GK : FnOk P w K mg base CX0 2 fPick fdK ["_law_pen_here", "_law_some"] (spPick K)) (FK : Fun K "_law_pick" "_law_pick" sPick fPick fdK) (bK : Binds K fdK ["_law_pen_here", "_law_some"] [])
    (GPen : FnOk P w K mg base CX0 1 fPen fdPen ["_law_script"] (spPen K)) (FPen : Fun K "_law_pen" "_law_pen" sPen fPen fdPen) (bPen : Binds K fdPen ["_law_script"] [])
    (GS : FnOk P w K mg base CX0 4 fSome fdS ["_law_pen_here", "_law_most"] (spSYard K)) (FS : Fun K "_law_some_yard" "_law_some_yard" sSYard fSome fdS) (bS : Binds K fdS ["_law_pen_here", "_law_most"] [])
    (GM : FnOk P w K mg base CX0 7 fMade fdM ["_law_pen_here", "_law_yard"] (spMade K)) (FM : Fun K "_law_made_yard" "_law_made_yard" sMade fMade fdM) (bM : Binds K fdM ["_law_pen_here", "_law_yard"] [])
    (GSt : FnOk P w K mg base CX0 2 fStand fdSt ["_law_pen_here", "_law_places", "_law_holes", "_law_kinds"] (spStand K)) (FSt : Fun K "_law_drawn_stand" "_law_drawn_stand" sStand fStand fdSt) (bSt : Binds K fdSt ["_law_pen_here", "_law_places", "_law_holes", "_law_kinds"] [])
    (GSM : FnOk P w K mg base CX0 3 fSMoves fdSM ["_law_pen_here", "_law_yard", "_law_stand", "_law_most"] (spSMoves K)) (FSM : Fun K "_law_some_moves" "_law_some_moves" sSMoves fSMoves fdSM) (bSM : Binds K fdSM ["_law_pen_here", "_law_yard", "_law_stand", "_law_most"] [])
    (GT : FnOk P w K mg base CX0 3 fTaken fdT ["yard", "moves"] (spTaken K)) (FT : Fun K "taken_back" "taken_back" sTaken fTaken fdT) (bT : Binds K fdT ["yard", "moves"] [])
    (GB : FnOk P w K mg base CX0 1 fBack fdB ["_law_yard", "_law_moves_here"] (spBack K)) (FB : Fun K "_law_back" "_law_back" sBack fBack fdB) (bB : Binds K fdB ["_law_yard", "_law_moves_here"] [])
    (GP : FnOk P w K mg base CX0 4 fPlayed fdP ["yard", "stand", "moves"] (spPlayed K)) (FP : Fun K "played" "played" sPlayed fPlayed fdP) (bP : Binds K fdP ["yard", "stand", "moves"] [])
    (GA : FnOk P w K mg base CX0 1 fAll fdA ["_law_yard"] (spAll K)) (FA : Fun K "_law_all_moves" "_law_all_moves" sAll fAll fdA) (bA : Binds K fdA ["_law_yard"] []) :
    FnOk P w K mg base CX0 8 f fd ["_law_script"] (spLaw K) := by
  refine F.ok scLaw (fun vs H Q E h => ?_) (fun cdv A outer s H vs Q E hr h => ?_)
  · obtain ⟨a, ns, rfl, _⟩ := h
    rfl
  · obtain ⟨a, ns, rfl, hS, hlen, k⟩ := h
    have hr1 : Room 1 _ := hr.mono (by decide)
    have hr2 : Room 2 _ := hr.mono (by decide)
    have hr3 : Room 3 _ := hr.mono (by decide)
    have hr4 : Room 4 _ := hr.mono (by decide)
    have hr6 : Room 6 _ := hr.mono (by decide)
    have hu := hr.units
    refine ⟨_, pss_cons (ps_set (i := 1) scLaw.nd rfl (Or.inr rfl) (pe_call GPen hr1 (by rfl) T.gPen FPen.kp bPen .nil pass0 (pa_cons (pv 0) pa_nil)))
      (pss_cons (ps_for PassesOwn.never rfl (pi_range1 (by rfl) T.range (pa_cons pe_int pa_nil)) (pg_name (i := 2) scLaw.nd rfl (Or.inl rfl))
        (pss_cons (ps_set (i := 3) scLaw.nd rfl (Or.inl rfl) (pe_call GS hr4 (by rfl) T.gSome FS.kp bS .nil pass0 (pa_cons (pv 1) (pa_cons pe_int pa_nil))))
        (pss_cons (ps_set (i := 4) scLaw.nd rfl (Or.inl rfl) (pe_call GM hr (by rfl) T.gMade FM.kp bM .nil pass0 (pa_cons (pv 1) (pa_cons (pv 3) pa_nil))))
        (pss_cons (ps_set (i := 5) scLaw.nd rfl (Or.inl rfl) (pe_call GSt hr2 (by rfl) T.gStand FSt.kp bSt .nil pass0 (pa_cons (pv 1) (pa_cons (pe_ix ix_tup (pv 3) pe_int (fun _ _ => rfl))
            (pa_cons (pe_callB (cr_min rfl) (by rfl) T.min (by decide +kernel) (pa_cons (pe_lst (pa_cons (pe_call GD hr1 (by rfl) T.p.gDraw FD.kp bD .nil pass0 (pa_cons (pv 1) (pa_cons pe_int pa_nil))) (pa_cons (pe_ix ix_tup (pv 3) pe_int (fun _ _ => rfl)) pa_nil))) pa_nil))
            (pa_cons (pe_cmpR op_eq (pe_call GD hr1 (by rfl) T.p.gDraw FD.kp bD .nil pass0 (pa_cons (pv 1) (pa_cons pe_int pa_nil))) pe_int (nomark _)) pa_nil))))))
        (pss_cons (ps_set (i := 6) scLaw.nd rfl (Or.inl rfl) (pe_call GSM hr3 (by rfl) T.gSMoves FSM.kp bSM .nil pass0 (pa_cons (pv 1) (pa_cons (pv 3) (pa_cons (pv 5) (pa_cons pe_int pa_nil))))))
        (pss_cons (ps_par (i := 7) (j := 8) rfl scLaw.nd rfl rfl (by decide) rfl rfl (pa_cons (pe_call GT hr3 (by rfl) T.gTaken FT.kp bT .nil pass0 (pa_cons (pv 4)
              (pa_cons (pe_call GK hr2 (by rfl) T.gPick FK.kp bK .nil pass0 (pa_cons (pv 1) (pa_cons (pe_lst (pa_cons (pv 6) (pa_cons (pe_callTy call_tuple_of (by rfl) T.tuple (by decide +kernel) (pa_cons (pv 6) pa_nil)) pa_nil))) pa_nil))) pa_nil)))
            (pa_cons (pe_call GB hr1 (by rfl) T.gBack FB.kp bB .nil pass0 (pa_cons (pv 3) (pa_cons (pv 6) pa_nil))) pa_nil)) (by rfl))
        (pss_cons (ps_if (PW.pt (pw_or (pt_cmpR (op_neD hu) (pv 7) (pv 8) (nomark _)) (pw_or1 (pt_cmpR (op_neD hu) (pe_call GT hr3 (by rfl) T.gTaken FT.kp bT .nil pass0 (pa_cons (pv 4) (pa_cons (pe_tup pa_nil) pa_nil))) (pe_tup pa_nil) (nomark _))))) (pss_one (ps_ret pe_bl)) pss_nil)
        (pss_cons (ps_if (PW.pt (pw_and (pt_cmp (pc_notN (pv 8))) (pw_and1 (pt_cmpR (op_neD hu) (pe_call GP hr4 (by rfl) T.gPlayed FP.kp bP .nil pass0 (pa_cons (pv 4) (pa_cons (pe_call GP hr4 (by rfl) T.gPlayed FP.kp bP .nil pass0 (pa_cons (pv 4) (pa_cons (pv 5) (pa_cons (pv 6) pa_nil)))) (pa_cons (pv 7) pa_nil)))) (pv 5) (nomark _))))) (pss_one (ps_ret pe_bl)) pss_nil)
        (pss_cons (ps_set (i := 9) scLaw.nd rfl (Or.inr rfl) (pe_call GA hr1 (by rfl) T.gAll FA.kp bA .nil pass0 (pa_cons (pv 3) pa_nil)))
        (pss_one (ps_if (pt_cmpR (op_neD hu) (pv 9) (pe_lst pa_nil) (nomark _))
          (pss_cons (ps_setLc (own := [("_law_turn", 11)]) (i := 10) (g := gName 11) (tt := tYes) rfl scLaw.nd rfl rfl (sw_true rfl rfl rfl (by decide +kernel)) (pi_range1 (by rfl) T.range (pa_cons (pe_op op_add pe_int (pe_call GD hr1 (by rfl) T.p.gDraw FD.kp bD .nil pass0 (pa_cons (pv 1) (pa_cons pe_int pa_nil)))) pa_nil)) (blkOk_by (N := NLaw) (sc := defScope sLaw) (by decide +kernel))
            (fun _ _ _ _ _ => pg_name (i := 11) scLaw.nd rfl (Or.inl rfl)) (fun _ _ _ _ _ => pts_nil) (fun _ _ _ _ _ => pe_call GK hr2 (by rfl) T.gPick FK.kp bK .nil pass0 (pa_cons (pv 1) (pa_cons (pv 9) pa_nil))))
          (pss_one (ps_if (pt_cmpR (op_neD hu) (pe_call GT hr3 (by rfl) T.gTaken FT.kp bT .nil pass0 (pa_cons (pv 4) (pa_cons (pv 10) pa_nil))) (pe_call GB hr1 (by rfl) T.gBack FB.kp bB .nil pass0 (pa_cons (pv 3) (pa_cons (pv 10) pa_nil))) (nomark _)) (pss_one (ps_ret pe_bl)) pss_nil))) pss_nil)))))))))))
      (pss_one (ps_ret pe_bl))), ?_⟩
    refine ⟨_, rfl, a, ns, rfl, hS, hlen, fun p c H1 P1 s1 np => ?_⟩
    refine ⟨4, rfl, by decide, by decide, ?_⟩
    refine for_range (lo := 0) (n := 4) (fun i σ H' => ∃ (v2 v3 v4 v5 v6 v7 v8 v9 v10 v11 : Option V), σ = [some (.ref a), some (.ref p), v2, v3, v4, v5, v6, v7, v8, v9, v10, v11] ∧ Pen H' p c (1000 * (4 - i)))
      ⟨none, none, none, none, none, none, none, none, none, none, rfl, P1.less (by decide)⟩ ?_ ?_
    · rintro i σ H2 hi ⟨v2, v3, v4, v5, v6, v7, v8, v9, v10, v11, rfl, P2⟩
      obtain ⟨b, hb⟩ : ∃ b, b = 1000 * (4 - (i + 1)) := ⟨_, rfl⟩
      have P2' : Pen H2 p c (b + 1000) := P2.less (by omega)
      refine ⟨_, rfl, p, c, 6, b + 800, rfl, P2'.less (by omega), by decide, by decide, fun q n ts rs H3 y ok nm kp3 P3 => ?_⟩
      obtain ⟨n1, n12, tok, tl, rok, rl⟩ := id ok
      refine ⟨_, rfl, _, rfl, p, c, q, n, b + 600, ts, rs, rfl, P3.less (by omega), y, ok, fun x H4 yo kp4 P4 => ?_⟩
      obtain ⟨ya, ye, yys, yzs, hq4, _⟩ := id (y.kp kp4)
      obtain ⟨kv4, hk4⟩ := P4.there
      refine ⟨_, rfl, _, rfl, q, _, 0, _, rfl, rfl, hq4, atI_nat (j := 0) rfl, ?_⟩
      refine ⟨_, rfl, p, c, 4, b + 599, rfl, P4, by decide, by decide, fun d H5 d0 d1 P5 B5 => ?_⟩
      have k5 := Kp.of_but B5 hk4
      refine ⟨_, rfl, q, _, 0, _, rfl, rfl, k5.seqT hq4, atI_nat (j := 0) rfl, (by show 2 ≤ sizeLine; decide), fun g ng => ?_⟩
      refine ⟨g, [d, (n : Int)], rfl, SqL.of upd_same, (by show 0 < 2; decide), fun m hm hmin => ?_⟩
      obtain ⟨h, rfl, hn⟩ : ∃ h : Nat, m = (h : Int) ∧ h ≤ n := by
        have hmn := hmin (n : Int) (by simp)
        have : 0 ≤ m := by
          rcases List.mem_cons.mp hm with rfl | hm
          · exact d0
          · rw [List.mem_singleton.mp hm]; omega
        exact ⟨m.toNat, by omega, by omega⟩
      have P5' := P5.same (Same.new (o := .lst [.int d, .int (n : Int)]) ng)
      obtain ⟨kv5, hk5⟩ := P5'.there
      refine ⟨_, rfl, p, c, 2, b + 598, rfl, P5', by decide, by decide, fun d2 H6 _ _ P6 B6 => ?_⟩
      have k6 := (k5.trans (.new (o := .lst [.int d, .int (n : Int)]) ng)).trans (.of_but B6 hk5)
      refine ⟨rfl, p, c, n, h, b + 500, _, rfl, P6.less (by omega), hn, by omega, fun s st H7 sok es k7 P7 => ?_⟩
      obtain ⟨sl, sb⟩ := sok
      have spos : ∀ z ∈ st, 0 ≤ z := fun z hz => (sb z hz).1
      have k47 := k6.trans k7
      have y7 := (y.kp kp4).kp k47
      refine ⟨_, rfl, _, rfl, _, rfl, p, c, q, s, n, b + 400, 10, ts, rs, st, rfl, P7.less (by omega), by decide, y7, ok, SqT.of es, sl, fun l ys ms H8 el pm lm can k8 P8 => ?_⟩
      have y8 := y7.kp k8
      have k48 := k47.trans k8
      have yo8 := yo.kp k48
      have es8 := k8.tup es
      have rings : ∀ r ∈ rs, r.length ≤ 100 ∧ 1 ≤ r.length := fun r hr => by
        obtain ⟨_, _, r3, rl'⟩ := rok r hr
        exact ⟨by omega, by omega⟩
      refine ⟨_, rfl, _, rfl, _, rfl, _, rfl, l, _, rfl, .inl ⟨SqL.of el, fun t nt => ⟨(by show 2 ≤ sizeLine; decide), fun g2 ng2 => ?_⟩⟩⟩
      have s9 : Same H8 (upd (upd H8 t (.tup ys)) g2 (.lst [.ref l, .ref t])) := (Same.new nt).trans (Same.new ng2)
      have et9 := Same.new ng2 (o := .lst [.ref l, .ref t]) _ _ (upd_same (H := H8) (a := t) (o := .tup ys))
      have P9 := P8.same s9
      obtain ⟨kv9, hk9⟩ := P9.there
      refine ⟨p, c, g2, _, b + 399, rfl, P9, .inl (SqL.of upd_same), (by intro z; cases z), (by show 2 ≤ 1000000; decide), fun xv j H10 hx P10 B10 => ?_⟩
      have k10 : Kp H8 H10 := (Kp.of_same s9).trans (.of_but B10 hk9)
      have kB := Kp.of_but B10 hk9
      obtain ⟨la, rfl, hla⟩ := pick2 (K := K) (H := H10) hx (SqL.of (k10.lst el)) (SqT.of (kB.tup et9))
      have pm10 := par_map (fun y m (h : MvAt K H8 y m) => h.kp k10) pm
      refine ⟨x, la, n, ts, rs, ys, ms, rfl, yo8.kp k10, rings, hla, pm10, by omega, can_mvIn can, fun v11 H11 tk1 s11 => ?_⟩
      have k11 := k10.trans (.of_same s11)
      refine ⟨_, rfl, _, rfl, q, l, n, ts, rs, ys, ms, rfl, y8.kp k11, rings, SqL.of (k11.lst el), par_map (fun y m (h : MvAt K H8 y m) => h.kp k11) pm, by omega, fun m hm => mvIn_ok (can_mvIn can m hm), fun v12 H12 tk2 s12 => ?_⟩
      have k12 := k11.trans (.of_same s12)
      have tk1' := tk1.kp (.of_same s12)
      refine ⟨_, _, rfl, _, rfl, _, rfl, tkD (backs ts rs ms.reverse), tkD (backs ts rs ms.reverse), tk_dp tk1', tk_dp tk2, tk_shaped _, tk_shaped _, _, rfl, ?_⟩
      rw [tk_self]
      refine iteF ?_
      refine ⟨_, rfl, (by show 0 ≤ sizeLine; decide), fun t0 nt0 => ?_⟩
      refine ⟨x, t0, n, ts, rs, [], [], rfl, (yo8.kp k12).kp (.new nt0), rings, .inr (SqT.of upd_same), .nil, (by decide), (fun m h => by cases h), fun v13 H13 tk3 s13 => ?_⟩
      refine ⟨(by show 0 ≤ sizeLine; decide), fun t1 nt1 => ?_⟩
      refine ⟨tkD (some []), tkD (some []), tk_dp ((show TkAt K H13 v13 (some []) from tk3).kp (.new nt1)), .tup (SqT.of upd_same) .nil, tk_shaped _, tk_shaped _, _, rfl, ?_⟩
      rw [tk_self]
      refine iteF ?_
      have s14 : Same H12 (upd H13 t1 (.tup [])) := ((Same.new nt0).trans s13).trans (Same.new nt1)
      have P14 : Pen (upd H13 t1 (.tup [])) p c (b + 300) := (((P10.same s11).same s12).same s14).less (by omega)
      have k14 := k12.trans (.of_same s14)
      have tk14 := tk1'.kp (.of_same s14)
      have tkd14 := tk2.kp (.of_same s14)
      generalize upd H13 t1 (.tup []) = H14 at P14 k14 tk14 tkd14 ⊢
      refine ⟨_, rfl, _, rfl, ?_⟩
      refine ifGo P14 (fun H15 k15 P15 => iteF ?_) (fun hne rest => ?_)
      rotate_left
      · -- the moves back, played
        cases ho : backs ts rs ms.reverse with
        | none =>
          rw [ho] at tkd14
          rw [show v12 = V.non from tkd14] at hne
          cases hne
        | some bs =>
          rw [ho] at tk14 tkd14
          obtain ⟨t1', ws1, rfl, ht1, hw1⟩ := tk14
          obtain ⟨tok1, tok2, tok3⟩ := tok
          have back := back_all tok2 rok sl ms.reverse bs (by rw [List.reverse_reverse]; exact can) ho
          rw [List.reverse_reverse] at back
          refine ⟨_, rfl, _, rfl, _, rfl, _, rfl, x, s, l, n, ts, rs, st, ys, ms, rfl, yo8.kp k14, by omega, rok, .inr (SqT.of (k14.tup es8)), sl, spos, .inl (SqL.of (k14.lst el)), par_map (fun y m (h : MvAt K H8 y m) => h.kp k14) pm, can, fun t2 H16 ht2 s16 => ?_⟩
          have k16 := k14.trans (.of_same s16)
          refine ⟨_, rfl, x, t2, t1', n, ts, rs, _, ws1, bs, rfl, yo8.kp k16, by omega, rok, .inr ht2, by rw [play_len, sl], play_pos spos, .inr (Same.seqT s16 ht1), par_map (fun y m h => h.kp (.of_same s16)) hw1, back.1, fun t3 H17 ht3 s17 => ?_⟩
          rw [back.2] at ht3
          have k17 := k16.trans (.of_same s17)
          refine ⟨_, rfl, .tuple (st.map .int), .tuple (st.map .int), .tup ht3 (ints_dp st), .tup (SqT.of (k17.tup es8)) (ints_dp st), ints_shaped st, ints_shaped st, _, rfl, ?_⟩
          rw [show PyData.eqv (.tuple (st.map .int)) (.tuple (st.map .int)) = true from ints_self st]
          exact rest H17 ((Kp.of_same s16).trans (.of_same s17)) ((P14.same s16).same s17)
      have kk15 := k14.trans k15
      refine ⟨_, rfl, q, n, ts, rs, rfl, y8.kp kk15, by omega, by omega, fun g4 zs4 H16 e4 p4 s16 => ?_⟩
      refine ⟨_, rfl, (by show 0 ≤ sizeLine; decide), fun o1 no1 => ?_⟩
      have k1617 : Kp H16 (upd H16 o1 (.lst [])) := .new no1
      have p4' := par_map (fun y m (h : MvAt K H16 y m) => h.kp k1617) p4
      have e4' := k1617.lst e4
      refine ⟨.list ((allMoves ts rs).map mvD), .list [], .lst (SqL.of e4') (mvs_dp p4'), .lst (SqL.of upd_same) .nil, mvs_shapedL _, mvs_shapedL [], _, rfl, ?_⟩
      have kA := (kk15.trans (.of_same s16)).trans k1617
      have PA := (P15.same s16).same (Same.new (o := .lst []) no1)
      generalize upd H16 o1 (.lst []) = H17 at kA PA p4' e4' ⊢
      refine ifT (fun hne => ?_) (fun _ => ⟨_, _, _, _, _, _, _, _, _, _, rfl, PA.less (by omega)⟩)
      have zne : zs4 ≠ [] := fun z => by
        have hl := Paired.length p4
        rw [z] at hl
        rw [List.eq_nil_of_length_eq_zero hl.symm] at hne
        cases hne
      have zlen : zs4.length ≤ 1000000 := by
        have hl := Paired.length p4
        have : (allMoves ts rs).length ≤ 100 := by
          unfold allMoves turns
          rw [List.length_append, List.length_map, List.length_map, List.length_range]
          omega
        omega
      obtain ⟨kv17, hk17⟩ := PA.there
      refine ⟨_, rfl, p, c, 4, b + 299, rfl, PA, by decide, by decide, fun u H18 u0 u1 P18 B18 => ?_⟩
      have k18 := Kp.of_but B18 hk17
      refine ⟨_, _, rfl, rfl, (1 + u : Int), rfl, by omega, by omega, fun D hD => ?_⟩
      have Do := P18.off hD
      refine lc_range (lo := 0) (n := ((1 + u : Int)).toNat) (fun i H' => ∃ zs ms', H' D = some (.lst zs) ∧ MvsAt K H' zs ms' ∧ (∀ m ∈ ms', m ∈ allMoves ts rs) ∧ zs.length = i ∧ Kp H18 H' ∧ Pen H' p c (b + 200 - i))
        ⟨[], [], upd_same, .nil, (fun m h => by cases h), rfl, .new hD, (P18.same (Same.new hD)).less (by omega)⟩ (fun i H' hi ⟨zs, ms', eD, pz, hin, lz, kz, Pz⟩ => ?_) (fun H' ⟨zs, ms', eD, pz, hin, lz, kz, Pz⟩ => ?_)
      · obtain ⟨kvz, hkz⟩ := Pz.there
        refine ⟨rfl, _, rfl, _, rfl, p, c, g4, zs4, b + 200 - (i + 1), rfl, Pz.less (by omega), .inl (SqL.of (kz.lst (k18.lst e4'))), zne, zlen, fun xv j H19 hx P19 B19 => ?_⟩
        have k19 := Kp.of_but B19 hkz
        obtain ⟨m, em, hm⟩ := par_get p4' hx
        have eD19 := k19.lst eD
        have kk19 : Kp H18 (upd H19 D (.lst (zs ++ [xv]))) := (kz.trans k19).upd hD
        refine ⟨zs, eD19, Nat.lt_of_le_of_lt (by omega : zs.length ≤ 100) (by decide), zs ++ [xv], ms' ++ [m], upd_same, ?_, ?_, by rw [List.length_append, lz]; rfl, kk19, P19.upd Do.1 Do.2⟩
        · exact par_snoc (par_map (fun y m h => (MvAt.kp h k19).off eD19) pz) ((((hm.kp k18).kp kz).kp k19).off eD19)
        · intro m2 h2
          rcases List.mem_append.mp h2 with h2 | h2
          · exact hin m2 h2
          · rw [List.mem_singleton.mp h2]; exact List.mem_of_getElem? em
      · have mlen : ms'.length ≤ 100 := by rw [← Paired.length pz]; omega
        have kz8 := (kA.trans k18).trans kz
        refine ⟨_, rfl, _, rfl, x, D, n, ts, rs, zs, ms', rfl, yo8.kp kz8, rings, .inl (SqL.of eD), pz, mlen, fun m hm => all_mvIn (hin m hm), fun v19 H19 tka s19 => ?_⟩
        refine ⟨_, rfl, _, rfl, q, D, n, ts, rs, zs, ms', rfl, (y8.kp kz8).kp (.of_same s19), rings, SqL.of (s19 _ _ eD), par_map (fun y m h => MvAt.kp h (.of_same s19)) pz, mlen, fun m hm => mvIn_ok (all_mvIn (hin m hm)), fun v20 H20 tkb s20 => ?_⟩
        refine ⟨tkD _, tkD _, tk_dp (tka.kp (.of_same s20)), tk_dp tkb, tk_shaped _, tk_shaped _, _, rfl, ?_⟩
        rw [tk_self]
        exact iteF ⟨_, _, _, _, _, _, _, _, _, _, rfl, ((Pz.same s19).same s20).less (by omega)⟩
    · rintro σ H2 ⟨v2, v3, v4, v5, v6, v7, v8, v9, v10, v11, rfl, P2⟩
      exact k H2
end
end Y
set_option Elab.async false
set_option linter.all false
set_option maxRecDepth 100000
set_option maxHeartbeats 4000000
namespace Y
open PySem L2
theorem all_mk {P : Program} {w : World} {K : PySem.W.Frag} {h : Heap} {mg : Str → Option Value} {fa C0 f0 f1 f2 f3 f4 f5 f6 f7 f8 f9 f10 f11 f12 f13 f14 f15 f16 f17 f18 f19 f20 f21 f22 f23 f24 f25 f26 f27 f28 f29 f30 : Addr} (X : K.In h) (G : h.Ns mainGlobals mg) (hfa : mg "law" = some (.ref fa))
    {od0 an0 od1 an1 od2 an2 od3 an3 od4 an4 od5 an5 od6 an6 od7 an7 od8 an8 od9 an9 od10 an10 od11 an11 od12 an12 od13 an13 od14 an14 od15 an15 od16 an16 od17 an17 od18 an18 od19 an19 od20 an20 od21 an21 od22 an22 od23 an23 od24 an24 od25 an25 od26 an26 od27 an27 od28 an28 od29 an29 od30 an30 : Option Addr} {sl0 sl1 sl2 sl3 sl4 sl5 sl6 sl7 sl8 sl9 sl10 sl11 sl12 sl13 sl14 sl15 sl16 sl17 sl18 sl19 sl20 sl21 sl22 sl23 sl24 sl25 sl26 sl27 sl28 sl29 sl30 : Array (Option Value)} {oc0 kV0 dc0 pm0 cd0 ct0 oc1 kV1 dc1 pm1 cd1 ct1 oc2 kV2 dc2 pm2 cd2 ct2 oc3 kV3 dc3 pm3 cd3 ct3 oc4 kV4 dc4 pm4 cd4 ct4 oc5 kV5 dc5 pm5 cd5 ct5 oc6 kV6 dc6 pm6 cd6 ct6 oc7 kV7 dc7 pm7 cd7 ct7 oc8 kV8 dc8 pm8 cd8 ct8 oc9 kV9 dc9 pm9 cd9 ct9 oc10 kV10 dc10 pm10 cd10 ct10 oc11 kV11 dc11 pm11 cd11 ct11 oc12 kV12 dc12 pm12 cd12 ct12 oc13 kV13 dc13 pm13 cd13 ct13 oc14 kV14 dc14 pm14 cd14 ct14 oc15 kV15 dc15 pm15 cd15 ct15 oc16 kV16 dc16 pm16 cd16 ct16 oc17 kV17 dc17 pm17 cd17 ct17 oc18 kV18 dc18 pm18 cd18 ct18 oc19 kV19 dc19 pm19 cd19 ct19 oc20 kV20 dc20 pm20 cd20 ct20 oc21 kV21 dc21 pm21 cd21 ct21 oc22 kV22 dc22 pm22 cd22 ct22 oc23 kV23 dc23 pm23 cd23 ct23 oc24 kV24 dc24 pm24 cd24 ct24 oc25 kV25 dc25 pm25 cd25 ct25 oc26 kV26 dc26 pm26 cd26 ct26 oc27 kV27 dc27 pm27 cd27 ct27 oc28 kV28 dc28 pm28 cd28 ct28 oc29 kV29 dc29 pm29 cd29 ct29 oc30 kV30 dc30 pm30 cd30 ct30 : Value}
    (aC0 : PySem.W.nsIn K mainGlobals "Yard" = some (some (.ref C0)))
    (pg0 : PySem.W.plainGet K C0 Str.empty = true)
    (hd0 : PySem.W.hasDictIn K C0 = true)
    (po0 : PySem.W.plainOver K C0 = true)
    (sa0 : PySem.W.findIn K (.ref C0) "__setattr__" = some (some (.builtin "object.__setattr__")))
    (mk0 : PySem.W.makesIn K C0 = true)
    (kc0 : PySem.W.keepIn K (.ref C0) = true)
    (n0_0 : PySem.W.findIn K (.ref C0) "places" = some none)
    (n0_1 : PySem.W.findIn K (.ref C0) "ties" = some none)
    (n0_2 : PySem.W.findIn K (.ref C0) "rings" = some none)
    (a0 : PySem.W.findIn K (.ref C0) "__init__" = some (some (.ref f0)))
    (i0 : PySem.W.isFn K (.ref f0) = true)
    (l0 : K.lookup f0 = some ⟨oc0, od0, .func (PySem.W.fnOf "__init__" "Yard.__init__" (defArgs sYInit) (defBody sYInit) (defScope sYInit) .none kV0 dc0 pm0 an0 cd0 ct0), sl0⟩)
    (c0 : PySem.W.codeIn K cd0 "Yard.__init__" = true)
    (k0 : PySem.W.keepIn K (.ref f0) = true)
    (a1 : PySem.W.nsIn K mainGlobals "is_integer" = some (some (.ref f1)))
    (l1 : K.lookup f1 = some ⟨oc1, od1, .func (PySem.W.fnOf "is_integer" "is_integer" (defArgs sIsInt) (defBody sIsInt) (defScope sIsInt) .none kV1 dc1 pm1 an1 cd1 ct1), sl1⟩)
    (c1 : PySem.W.codeIn K cd1 "is_integer" = true)
    (k1 : PySem.W.keepIn K (.ref f1) = true)
    (a2 : PySem.W.nsIn K mainGlobals "is_count" = some (some (.ref f2)))
    (l2 : K.lookup f2 = some ⟨oc2, od2, .func (PySem.W.fnOf "is_count" "is_count" (defArgs sIsCount) (defBody sIsCount) (defScope sIsCount) .none kV2 dc2 pm2 an2 cd2 ct2), sl2⟩)
    (c2 : PySem.W.codeIn K cd2 "is_count" = true)
    (k2 : PySem.W.keepIn K (.ref f2) = true)
    (a3 : PySem.W.nsIn K mainGlobals "is_row" = some (some (.ref f3)))
    (l3 : K.lookup f3 = some ⟨oc3, od3, .func (PySem.W.fnOf "is_row" "is_row" (defArgs sIsRow) (defBody sIsRow) (defScope sIsRow) .none kV3 dc3 pm3 an3 cd3 ct3), sl3⟩)
    (c3 : PySem.W.codeIn K cd3 "is_row" = true)
    (k3 : PySem.W.keepIn K (.ref f3) = true)
    (a4 : PySem.W.nsIn K mainGlobals "are_unlike_numbers" = some (some (.ref f4)))
    (l4 : K.lookup f4 = some ⟨oc4, od4, .func (PySem.W.fnOf "are_unlike_numbers" "are_unlike_numbers" (defArgs sUnlike) (defBody sUnlike) (defScope sUnlike) .none kV4 dc4 pm4 an4 cd4 ct4), sl4⟩)
    (c4 : PySem.W.codeIn K cd4 "are_unlike_numbers" = true)
    (k4 : PySem.W.keepIn K (.ref f4) = true)
    (a5 : PySem.W.nsIn K mainGlobals "checked_ties" = some (some (.ref f5)))
    (l5 : K.lookup f5 = some ⟨oc5, od5, .func (PySem.W.fnOf "checked_ties" "checked_ties" (defArgs sCTies) (defBody sCTies) (defScope sCTies) .none kV5 dc5 pm5 an5 cd5 ct5), sl5⟩)
    (c5 : PySem.W.codeIn K cd5 "checked_ties" = true)
    (k5 : PySem.W.keepIn K (.ref f5) = true)
    (a6 : PySem.W.nsIn K mainGlobals "checked_rings" = some (some (.ref f6)))
    (l6 : K.lookup f6 = some ⟨oc6, od6, .func (PySem.W.fnOf "checked_rings" "checked_rings" (defArgs sCRings) (defBody sCRings) (defScope sCRings) .none kV6 dc6 pm6 an6 cd6 ct6), sl6⟩)
    (c6 : PySem.W.codeIn K cd6 "checked_rings" = true)
    (k6 : PySem.W.keepIn K (.ref f6) = true)
    (a7 : PySem.W.nsIn K mainGlobals "is_stand_row" = some (some (.ref f7)))
    (l7 : K.lookup f7 = some ⟨oc7, od7, .func (PySem.W.fnOf "is_stand_row" "is_stand_row" (defArgs sIsStand) (defBody sIsStand) (defScope sIsStand) .none kV7 dc7 pm7 an7 cd7 ct7), sl7⟩)
    (c7 : PySem.W.codeIn K cd7 "is_stand_row" = true)
    (k7 : PySem.W.keepIn K (.ref f7) = true)
    (a8 : PySem.W.nsIn K mainGlobals "is_move" = some (some (.ref f8)))
    (l8 : K.lookup f8 = some ⟨oc8, od8, .func (PySem.W.fnOf "is_move" "is_move" (defArgs sIsMove) (defBody sIsMove) (defScope sIsMove) .none kV8 dc8 pm8 an8 cd8 ct8), sl8⟩)
    (c8 : PySem.W.codeIn K cd8 "is_move" = true)
    (k8 : PySem.W.keepIn K (.ref f8) = true)
    (a9 : PySem.W.nsIn K mainGlobals "can_be_made" = some (some (.ref f9)))
    (l9 : K.lookup f9 = some ⟨oc9, od9, .func (PySem.W.fnOf "can_be_made" "can_be_made" (defArgs sCanBe) (defBody sCanBe) (defScope sCanBe) .none kV9 dc9 pm9 an9 cd9 ct9), sl9⟩)
    (c9 : PySem.W.codeIn K cd9 "can_be_made" = true)
    (k9 : PySem.W.keepIn K (.ref f9) = true)
    (a10 : PySem.W.nsIn K mainGlobals "behind_move" = some (some (.ref f10)))
    (l10 : K.lookup f10 = some ⟨oc10, od10, .func (PySem.W.fnOf "behind_move" "behind_move" (defArgs sBehind) (defBody sBehind) (defScope sBehind) .none kV10 dc10 pm10 an10 cd10 ct10), sl10⟩)
    (c10 : PySem.W.codeIn K cd10 "behind_move" = true)
    (k10 : PySem.W.keepIn K (.ref f10) = true)
    (a11 : PySem.W.nsIn K mainGlobals "behind_all" = some (some (.ref f11)))
    (l11 : K.lookup f11 = some ⟨oc11, od11, .func (PySem.W.fnOf "behind_all" "behind_all" (defArgs sBehindAll) (defBody sBehindAll) (defScope sBehindAll) .none kV11 dc11 pm11 an11 cd11 ct11), sl11⟩)
    (c11 : PySem.W.codeIn K cd11 "behind_all" = true)
    (k11 : PySem.W.keepIn K (.ref f11) = true)
    (a12 : PySem.W.nsIn K mainGlobals "played" = some (some (.ref f12)))
    (l12 : K.lookup f12 = some ⟨oc12, od12, .func (PySem.W.fnOf "played" "played" (defArgs sPlayed) (defBody sPlayed) (defScope sPlayed) .none kV12 dc12 pm12 an12 cd12 ct12), sl12⟩)
    (c12 : PySem.W.codeIn K cd12 "played" = true)
    (k12 : PySem.W.keepIn K (.ref f12) = true)
    (a13 : PySem.W.nsIn K mainGlobals "taken_back" = some (some (.ref f13)))
    (l13 : K.lookup f13 = some ⟨oc13, od13, .func (PySem.W.fnOf "taken_back" "taken_back" (defArgs sTaken) (defBody sTaken) (defScope sTaken) .none kV13 dc13 pm13 an13 cd13 ct13), sl13⟩)
    (c13 : PySem.W.codeIn K cd13 "taken_back" = true)
    (k13 : PySem.W.keepIn K (.ref f13) = true)
    (a14 : PySem.W.nsIn K mainGlobals "_law_pen" = some (some (.ref f14)))
    (l14 : K.lookup f14 = some ⟨oc14, od14, .func (PySem.W.fnOf "_law_pen" "_law_pen" (defArgs sPen) (defBody sPen) (defScope sPen) .none kV14 dc14 pm14 an14 cd14 ct14), sl14⟩)
    (c14 : PySem.W.codeIn K cd14 "_law_pen" = true)
    (k14 : PySem.W.keepIn K (.ref f14) = true)
    (a15 : PySem.W.nsIn K mainGlobals "_law_draw" = some (some (.ref f15)))
    (l15 : K.lookup f15 = some ⟨oc15, od15, .func (PySem.W.fnOf "_law_draw" "_law_draw" (defArgs sDraw) (defBody sDraw) (defScope sDraw) .none kV15 dc15 pm15 an15 cd15 ct15), sl15⟩)
    (c15 : PySem.W.codeIn K cd15 "_law_draw" = true)
    (k15 : PySem.W.keepIn K (.ref f15) = true)
    (a16 : PySem.W.nsIn K mainGlobals "_law_pick" = some (some (.ref f16)))
    (l16 : K.lookup f16 = some ⟨oc16, od16, .func (PySem.W.fnOf "_law_pick" "_law_pick" (defArgs sPick) (defBody sPick) (defScope sPick) .none kV16 dc16 pm16 an16 cd16 ct16), sl16⟩)
    (c16 : PySem.W.codeIn K cd16 "_law_pick" = true)
    (k16 : PySem.W.keepIn K (.ref f16) = true)
    (a17 : PySem.W.nsIn K mainGlobals "_law_drawn_yard" = some (some (.ref f17)))
    (l17 : K.lookup f17 = some ⟨oc17, od17, .func (PySem.W.fnOf "_law_drawn_yard" "_law_drawn_yard" (defArgs sDYard) (defBody sDYard) (defScope sDYard) .none kV17 dc17 pm17 an17 cd17 ct17), sl17⟩)
    (c17 : PySem.W.codeIn K cd17 "_law_drawn_yard" = true)
    (k17 : PySem.W.keepIn K (.ref f17) = true)
    (a18 : PySem.W.nsIn K mainGlobals "_law_without" = some (some (.ref f18)))
    (l18 : K.lookup f18 = some ⟨oc18, od18, .func (PySem.W.fnOf "_law_without" "_law_without" (defArgs sWithout) (defBody sWithout) (defScope sWithout) .none kV18 dc18 pm18 an18 cd18 ct18), sl18⟩)
    (c18 : PySem.W.codeIn K cd18 "_law_without" = true)
    (k18 : PySem.W.keepIn K (.ref f18) = true)
    (a19 : PySem.W.nsIn K mainGlobals "_law_drawn_ring" = some (some (.ref f19)))
    (l19 : K.lookup f19 = some ⟨oc19, od19, .func (PySem.W.fnOf "_law_drawn_ring" "_law_drawn_ring" (defArgs sRing) (defBody sRing) (defScope sRing) .none kV19 dc19 pm19 an19 cd19 ct19), sl19⟩)
    (c19 : PySem.W.codeIn K cd19 "_law_drawn_ring" = true)
    (k19 : PySem.W.keepIn K (.ref f19) = true)
    (a20 : PySem.W.nsIn K mainGlobals "_law_drawn_stand" = some (some (.ref f20)))
    (l20 : K.lookup f20 = some ⟨oc20, od20, .func (PySem.W.fnOf "_law_drawn_stand" "_law_drawn_stand" (defArgs sStand) (defBody sStand) (defScope sStand) .none kV20 dc20 pm20 an20 cd20 ct20), sl20⟩)
    (c20 : PySem.W.codeIn K cd20 "_law_drawn_stand" = true)
    (k20 : PySem.W.keepIn K (.ref f20) = true)
    (a21 : PySem.W.nsIn K mainGlobals "_law_moves" = some (some (.ref f21)))
    (l21 : K.lookup f21 = some ⟨oc21, od21, .func (PySem.W.fnOf "_law_moves" "_law_moves" (defArgs sMoves) (defBody sMoves) (defScope sMoves) .none kV21 dc21 pm21 an21 cd21 ct21), sl21⟩)
    (c21 : PySem.W.codeIn K cd21 "_law_moves" = true)
    (k21 : PySem.W.keepIn K (.ref f21) = true)
    (a22 : PySem.W.nsIn K mainGlobals "_law_moved" = some (some (.ref f22)))
    (l22 : K.lookup f22 = some ⟨oc22, od22, .func (PySem.W.fnOf "_law_moved" "_law_moved" (defArgs sMoved) (defBody sMoved) (defScope sMoved) .none kV22 dc22 pm22 an22 cd22 ct22), sl22⟩)
    (c22 : PySem.W.codeIn K cd22 "_law_moved" = true)
    (k22 : PySem.W.keepIn K (.ref f22) = true)
    (a23 : PySem.W.nsIn K mainGlobals "_law_shuffled" = some (some (.ref f23)))
    (l23 : K.lookup f23 = some ⟨oc23, od23, .func (PySem.W.fnOf "_law_shuffled" "_law_shuffled" (defArgs sShuf) (defBody sShuf) (defScope sShuf) .none kV23 dc23 pm23 an23 cd23 ct23), sl23⟩)
    (c23 : PySem.W.codeIn K cd23 "_law_shuffled" = true)
    (k23 : PySem.W.keepIn K (.ref f23) = true)
    (a24 : PySem.W.nsIn K mainGlobals "_law_listed" = some (some (.ref f24)))
    (l24 : K.lookup f24 = some ⟨oc24, od24, .func (PySem.W.fnOf "_law_listed" "_law_listed" (defArgs sListed) (defBody sListed) (defScope sListed) .none kV24 dc24 pm24 an24 cd24 ct24), sl24⟩)
    (c24 : PySem.W.codeIn K cd24 "_law_listed" = true)
    (k24 : PySem.W.keepIn K (.ref f24) = true)
    (a25 : PySem.W.nsIn K mainGlobals "_law_made_yard" = some (some (.ref f25)))
    (l25 : K.lookup f25 = some ⟨oc25, od25, .func (PySem.W.fnOf "_law_made_yard" "_law_made_yard" (defArgs sMade) (defBody sMade) (defScope sMade) .none kV25 dc25 pm25 an25 cd25 ct25), sl25⟩)
    (c25 : PySem.W.codeIn K cd25 "_law_made_yard" = true)
    (k25 : PySem.W.keepIn K (.ref f25) = true)
    (a26 : PySem.W.nsIn K mainGlobals "_law_some_yard" = some (some (.ref f26)))
    (l26 : K.lookup f26 = some ⟨oc26, od26, .func (PySem.W.fnOf "_law_some_yard" "_law_some_yard" (defArgs sSYard) (defBody sSYard) (defScope sSYard) .none kV26 dc26 pm26 an26 cd26 ct26), sl26⟩)
    (c26 : PySem.W.codeIn K cd26 "_law_some_yard" = true)
    (k26 : PySem.W.keepIn K (.ref f26) = true)
    (a27 : PySem.W.nsIn K mainGlobals "_law_all_moves" = some (some (.ref f27)))
    (l27 : K.lookup f27 = some ⟨oc27, od27, .func (PySem.W.fnOf "_law_all_moves" "_law_all_moves" (defArgs sAll) (defBody sAll) (defScope sAll) .none kV27 dc27 pm27 an27 cd27 ct27), sl27⟩)
    (c27 : PySem.W.codeIn K cd27 "_law_all_moves" = true)
    (k27 : PySem.W.keepIn K (.ref f27) = true)
    (a28 : PySem.W.nsIn K mainGlobals "_law_some_moves" = some (some (.ref f28)))
    (l28 : K.lookup f28 = some ⟨oc28, od28, .func (PySem.W.fnOf "_law_some_moves" "_law_some_moves" (defArgs sSMoves) (defBody sSMoves) (defScope sSMoves) .none kV28 dc28 pm28 an28 cd28 ct28), sl28⟩)
    (c28 : PySem.W.codeIn K cd28 "_law_some_moves" = true)
    (k28 : PySem.W.keepIn K (.ref f28) = true)
    (a29 : PySem.W.nsIn K mainGlobals "_law_back" = some (some (.ref f29)))
    (l29 : K.lookup f29 = some ⟨oc29, od29, .func (PySem.W.fnOf "_law_back" "_law_back" (defArgs sBack) (defBody sBack) (defScope sBack) .none kV29 dc29 pm29 an29 cd29 ct29), sl29⟩)
    (c29 : PySem.W.codeIn K cd29 "_law_back" = true)
    (k29 : PySem.W.keepIn K (.ref f29) = true)
    (a30 : PySem.W.nsIn K mainGlobals "law" = some (some (.ref f30)))
    (l30 : K.lookup f30 = some ⟨oc30, od30, .func (PySem.W.fnOf "law" "law" (defArgs sLaw) (defBody sLaw) (defScope sLaw) .none kV30 dc30 pm30 an30 cd30 ct30), sl30⟩)
    (c30 : PySem.W.codeIn K cd30 "law" = true)
    (k30 : PySem.W.keepIn K (.ref f30) = true)
    (z0 : PySem.W.nsIn K mainGlobals "isinstance" = some none)
    (z1 : PySem.W.nsIn K mainGlobals "int" = some none)
    (z2 : PySem.W.nsIn K mainGlobals "bool" = some none)
    (z3 : PySem.W.nsIn K mainGlobals "tuple" = some none)
    (z4 : PySem.W.nsIn K mainGlobals "list" = some none)
    (z5 : PySem.W.nsIn K mainGlobals "len" = some none)
    (z6 : PySem.W.nsIn K mainGlobals "all" = some none)
    (z7 : PySem.W.nsIn K mainGlobals "set" = some none)
    (z8 : PySem.W.nsIn K mainGlobals "sorted" = some none)
    (z9 : PySem.W.nsIn K mainGlobals "enumerate" = some none)
    (z10 : PySem.W.nsIn K mainGlobals "reversed" = some none)
    (z11 : PySem.W.nsIn K mainGlobals "range" = some none)
    (z12 : PySem.W.nsIn K mainGlobals "str" = some none)
    (z13 : PySem.W.nsIn K mainGlobals "min" = some none) :
    ∃ fd : FuncData, (∀ (s : Shared) (v : Value), BindsTo s fd ⟨[v], []⟩ [("_law_script", v)]) ∧ ∀ base : Heap, K.In base → base.Ns mainGlobals mg → FnOk P w K mg base CX0 8 fa fd ["_law_script"] (spLaw K) := by
  have e := hfa.symm.trans (PySem.W.mg_of X G a30)
  cases e
  have F0 := fun_mk (st := sYInit) l0 c0 k0
  have b0 := F0.binds (ps := ["self", "places", "ties", "rings"]) fun _ _ _ _ _ _ us hl => match us, hl with | [_, _, _, _], _ => rfl
  have F1 := fun_mk (st := sIsInt) l1 c1 k1
  have b1 := F1.binds (ps := ["value"]) fun _ _ _ _ _ _ us hl => match us, hl with | [_], _ => rfl
  have F2 := fun_mk (st := sIsCount) l2 c2 k2
  have b2 := F2.binds (ps := ["value"]) fun _ _ _ _ _ _ us hl => match us, hl with | [_], _ => rfl
  have F3 := fun_mk (st := sIsRow) l3 c3 k3
  have b3 := F3.binds (ps := ["value"]) fun _ _ _ _ _ _ us hl => match us, hl with | [_], _ => rfl
  have F4 := fun_mk (st := sUnlike) l4 c4 k4
  have b4 := F4.binds (ps := ["many", "value"]) fun _ _ _ _ _ _ us hl => match us, hl with | [_, _], _ => rfl
  have F5 := fun_mk (st := sCTies) l5 c5 k5
  have b5 := F5.binds (ps := ["places", "ties"]) fun _ _ _ _ _ _ us hl => match us, hl with | [_, _], _ => rfl
  have F6 := fun_mk (st := sCRings) l6 c6 k6
  have b6 := F6.binds (ps := ["places", "rings"]) fun _ _ _ _ _ _ us hl => match us, hl with | [_, _], _ => rfl
  have F7 := fun_mk (st := sIsStand) l7 c7 k7
  have b7 := F7.binds (ps := ["yard", "value"]) fun _ _ _ _ _ _ us hl => match us, hl with | [_, _], _ => rfl
  have F8 := fun_mk (st := sIsMove) l8 c8 k8
  have b8 := F8.binds (ps := ["yard", "value"]) fun _ _ _ _ _ _ us hl => match us, hl with | [_, _], _ => rfl
  have F9 := fun_mk (st := sCanBe) l9 c9 k9
  have b9 := F9.binds (ps := ["stand", "move"]) fun _ _ _ _ _ _ us hl => match us, hl with | [_, _], _ => rfl
  have F10 := fun_mk (st := sBehind) l10 c10 k10
  have b10 := F10.binds (ps := ["yard", "stand", "move"]) fun _ _ _ _ _ _ us hl => match us, hl with | [_, _, _], _ => rfl
  have F11 := fun_mk (st := sBehindAll) l11 c11 k11
  have b11 := F11.binds (ps := ["yard", "stand", "moves"]) fun _ _ _ _ _ _ us hl => match us, hl with | [_, _, _], _ => rfl
  have F12 := fun_mk (st := sPlayed) l12 c12 k12
  have b12 := F12.binds (ps := ["yard", "stand", "moves"]) fun _ _ _ _ _ _ us hl => match us, hl with | [_, _, _], _ => rfl
  have F13 := fun_mk (st := sTaken) l13 c13 k13
  have b13 := F13.binds (ps := ["yard", "moves"]) fun _ _ _ _ _ _ us hl => match us, hl with | [_, _], _ => rfl
  have F14 := fun_mk (st := sPen) l14 c14 k14
  have b14 := F14.binds (ps := ["_law_script"]) fun _ _ _ _ _ _ us hl => match us, hl with | [_], _ => rfl
  have F15 := fun_mk (st := sDraw) l15 c15 k15
  have b15 := F15.binds (ps := ["_law_pen_here", "_law_many"]) fun _ _ _ _ _ _ us hl => match us, hl with | [_, _], _ => rfl
  have F16 := fun_mk (st := sPick) l16 c16 k16
  have b16 := F16.binds (ps := ["_law_pen_here", "_law_some"]) fun _ _ _ _ _ _ us hl => match us, hl with | [_, _], _ => rfl
  have F17 := fun_mk (st := sDYard) l17 c17 k17
  have b17 := F17.binds (ps := ["_law_pen_here", "_law_most", "_law_ways", "_law_rings"]) fun _ _ _ _ _ _ us hl => match us, hl with | [_, _, _, _], _ => rfl
  have F18 := fun_mk (st := sWithout) l18 c18 k18
  have b18 := F18.binds (ps := ["_law_pairs", "_law_gone"]) fun _ _ _ _ _ _ us hl => match us, hl with | [_, _], _ => rfl
  have F19 := fun_mk (st := sRing) l19 c19 k19
  have b19 := F19.binds (ps := ["_law_pen_here", "_law_places"]) fun _ _ _ _ _ _ us hl => match us, hl with | [_, _], _ => rfl
  have F20 := fun_mk (st := sStand) l20 c20 k20
  have b20 := F20.binds (ps := ["_law_pen_here", "_law_places", "_law_holes", "_law_kinds"]) fun _ _ _ _ _ _ us hl => match us, hl with | [_, _, _, _], _ => rfl
  have F21 := fun_mk (st := sMoves) l21 c21 k21
  have b21 := F21.binds (ps := ["_law_yard", "_law_stand"]) fun _ _ _ _ _ _ us hl => match us, hl with | [_, _], _ => rfl
  have F22 := fun_mk (st := sMoved) l22 c22 k22
  have b22 := F22.binds (ps := ["_law_yard", "_law_stand", "_law_move"]) fun _ _ _ _ _ _ us hl => match us, hl with | [_, _, _], _ => rfl
  have F23 := fun_mk (st := sShuf) l23 c23 k23
  have b23 := F23.binds (ps := ["_law_pen_here", "_law_some"]) fun _ _ _ _ _ _ us hl => match us, hl with | [_, _], _ => rfl
  have F24 := fun_mk (st := sListed) l24 c24 k24
  have b24 := F24.binds (ps := ["_law_pen_here", "_law_some"]) fun _ _ _ _ _ _ us hl => match us, hl with | [_, _], _ => rfl
  have F25 := fun_mk (st := sMade) l25 c25 k25
  have b25 := F25.binds (ps := ["_law_pen_here", "_law_yard"]) fun _ _ _ _ _ _ us hl => match us, hl with | [_, _], _ => rfl
  have F26 := fun_mk (st := sSYard) l26 c26 k26
  have b26 := F26.binds (ps := ["_law_pen_here", "_law_most"]) fun _ _ _ _ _ _ us hl => match us, hl with | [_, _], _ => rfl
  have F27 := fun_mk (st := sAll) l27 c27 k27
  have b27 := F27.binds (ps := ["_law_yard"]) fun _ _ _ _ _ _ us hl => match us, hl with | [_], _ => rfl
  have F28 := fun_mk (st := sSMoves) l28 c28 k28
  have b28 := F28.binds (ps := ["_law_pen_here", "_law_yard", "_law_stand", "_law_most"]) fun _ _ _ _ _ _ us hl => match us, hl with | [_, _, _, _], _ => rfl
  have F29 := fun_mk (st := sBack) l29 c29 k29
  have b29 := F29.binds (ps := ["_law_yard", "_law_moves_here"]) fun _ _ _ _ _ _ us hl => match us, hl with | [_, _], _ => rfl
  have F30 := fun_mk (st := sLaw) l30 c30 k30
  refine ⟨PySem.W.fnOf "law" "law" (defArgs sLaw) (defBody sLaw) (defScope sLaw) .none kV30 dc30 pm30 an30 cd30 ct30, fun s v => .of_eq rfl, fun base _ _ => ?_⟩
  have yc : YCls K C0 := ⟨⟨pg0, hd0, po0, sa0⟩, n0_0, n0_1, n0_2⟩
  have ti : TI0 mg := ⟨(PySem.W.mg_none_of X G z0), (PySem.W.mg_none_of X G z1), (PySem.W.mg_none_of X G z2), (PySem.W.mg_none_of X G z3), (PySem.W.mg_none_of X G z4)⟩
  have tu : TUn K mg f1 f3 f4 f2 := ⟨ti, (PySem.W.mg_none_of X G z5), (PySem.W.mg_none_of X G z6), (PySem.W.mg_none_of X G z7), (PySem.W.mg_none_of X G z8), (PySem.W.mg_none_of X G z9), (PySem.W.mg_of X G a1), (PySem.W.mg_of X G a3), (PySem.W.mg_of X G a4), (PySem.W.mg_of X G a2)⟩
  have ty : TYd K mg C0 f1 f3 f4 f2 f5 f6 := ⟨tu, (PySem.W.mg_of X G a5), (PySem.W.mg_of X G a6), yc, (PySem.W.mg_of X G aC0)⟩
  have tp : TxP K mg f15 := ⟨(PySem.W.mg_none_of X G z1), (PySem.W.mg_none_of X G z4), (PySem.W.mg_none_of X G z5), (PySem.W.mg_of X G a15)⟩
  have tg : TG K mg f15 := ⟨tp, (PySem.W.mg_none_of X G z11), (PySem.W.mg_none_of X G z3)⟩
  have tn : TN K mg f1 := ⟨ti, (PySem.W.mg_none_of X G z12), (PySem.W.mg_none_of X G z5), (PySem.W.mg_none_of X G z6), (PySem.W.mg_of X G a1)⟩
  have tt : TT0 K mg f8 := ⟨(PySem.W.mg_none_of X G z9), (PySem.W.mg_none_of X G z10), (PySem.W.mg_none_of X G z3), (PySem.W.mg_none_of X G z5), (PySem.W.mg_of X G a8)⟩
  have tpl : TPl K mg f1 f3 f7 f8 f9 f10 f11 f2 := ⟨ti, (PySem.W.mg_none_of X G z5), (PySem.W.mg_none_of X G z6), (PySem.W.mg_none_of X G z9), (PySem.W.mg_of X G a1), (PySem.W.mg_of X G a3), (PySem.W.mg_of X G a7), (PySem.W.mg_of X G a8), (PySem.W.mg_of X G a9), (PySem.W.mg_of X G a10), (PySem.W.mg_of X G a11), (PySem.W.mg_of X G a2)⟩
  have tls : TLs K mg f15 f24 := ⟨tg, (PySem.W.mg_none_of X G z0), (PySem.W.mg_of X G a24)⟩
  have tm : TM K mg f15 f16 f21 f22 := ⟨tg, (PySem.W.mg_of X G a16), (PySem.W.mg_of X G a21), (PySem.W.mg_of X G a22)⟩
  have tyd : TY K mg f15 f16 f18 f19 := ⟨tg, (PySem.W.mg_none_of X G z8), (PySem.W.mg_of X G a16), (PySem.W.mg_of X G a18), (PySem.W.mg_of X G a19)⟩
  have tlw : TLw K mg f15 f16 f14 f26 f25 f20 f28 f13 f29 f12 f27 := ⟨tp, (PySem.W.mg_none_of X G z11), (PySem.W.mg_none_of X G z3), (PySem.W.mg_none_of X G z13), (PySem.W.mg_of X G a16), (PySem.W.mg_of X G a14), (PySem.W.mg_of X G a26), (PySem.W.mg_of X G a25), (PySem.W.mg_of X G a20), (PySem.W.mg_of X G a28), (PySem.W.mg_of X G a13), (PySem.W.mg_of X G a29), (PySem.W.mg_of X G a12), (PySem.W.mg_of X G a27)⟩
  have gUn := ok_unlike (P := P) (w := w) (base := base) F4 tu F1 b1 F3 b3 F2 b2
  have gCT := ok_cties (P := P) (w := w) (base := base) F5 tu F3 b3 gUn F4 b4
  have gCR := ok_crings (P := P) (w := w) (base := base) F6 tu F3 b3 gUn F4 b4
  have gYI := ok_yinit (P := P) (w := w) (base := base) F0 ty F1 b1 gCT F5 b5 gCR F6 b6
  have gIM := ok_isMove (P := P) (w := w) (base := base) F8 tn F1 b1
  have gIS := ok_isStand (P := P) (w := w) (base := base) F7 tpl F1 b1 F3 b3 F2 b2
  have gBA := ok_behindAll (P := P) (w := w) (base := base) F11 tpl gIM F8 b8 F9 b9 F10 b10
  have gPl := ok_played (P := P) (w := w) (base := base) F12 tpl gIS F7 b7 gBA F11 b11
  have gTB := ok_taken (P := P) (w := w) (base := base) F13 tt gIM F8 b8
  have gPen := ok_pen (P := P) (w := w) (base := base) F14 tp
  have gD := ok_draw (P := P) (w := w) (base := base) F15 tp
  have gPk := ok_pick (P := P) (w := w) (base := base) F16 tp F15 b15
  have gDY := ok_dyard (P := P) (w := w) (base := base) F17 tyd F15 b15 F16 b16 F18 b18 F19 b19
  have gSY := ok_syard (P := P) (w := w) (base := base) F26 tg (PySem.W.mg_of X G a17) F15 b15 gDY F17 b17
  have gMd := ok_made (P := P) (w := w) (base := base) F25 ty tls (PySem.W.mg_of X G a23) ⟨mk0, a0, i0, kc0⟩ gYI b0 F23 b23 F24 b24 F15 b15
  have gSt := ok_stand (P := P) (w := w) (base := base) F20 tg F15 b15
  have gSM := ok_smoves (P := P) (w := w) (base := base) F28 tm F15 b15 F16 b16 F21 b21 F22 b22
  have gBk := ok_back (P := P) (w := w) (base := base) F29 tg
  have gAl := ok_all (P := P) (w := w) (base := base) F27 tg
  exact ok_law (P := P) (w := w) (base := base) F30 tlw gD F15 b15 gPk F16 b16 gPen F14 b14 gSY F26 b26 gMd F25 b25 gSt F20 b20 gSM F28 b28 gTB F13 b13 gBk F29 b29 gPl F12 b12 gAl F27 b27
theorem walk {l : PySem.W.OpenLaw} {q : Program} {loose : List Str} {XP : (Str → Option Value) → Heap → Prop} {YP : World → Heap → Prop} {d : DefRec} {K : Params → PySem.W.Frag} (hn : l.most = some 63) (hdf : d.params.defaults = [])
    (hY : ∀ (w : World) (h : Heap), YP w h → (K w.params).In h)
    (F : ∀ (w : World) (mg : Str → Option Value) (fa : Addr) (h : Heap), (K w.params).In h → h.Ns mainGlobals mg → mg d.name = some (.ref fa) →
      ∃ fd : FuncData, (∀ (s : Shared) (u : Value), BindsTo s fd ⟨[u], []⟩ [("_law_script", u)]) ∧ ∀ base : Heap, (K w.params).In base → base.Ns mainGlobals mg → FnOk l.prog w (K w.params) mg base CX0 8 fa fd ["_law_script"] (spLaw (K w.params))) :
    PySem.W.WalkO q loose XP YP l.row.toRowW d [] (fun f vs => PySem.call f vs) :=
  L2.walk_of (n := 63) (k := 8) (x := "_law_script") (CX := fun _ => CX0) (sp := fun w => spLaw (K w.params)) hn (by decide) hdf ⟨rfl, by decide, by decide⟩ hY F (fun _ _ a ns hl _ hS => ⟨a, ns, rfl, hS, hl, fun _ => rfl⟩) fun _ _ _ _ _ z => z
end Y
open PySem PySem.W PyProof.Rows
set_option maxRecDepth 100000 in
set_option maxHeartbeats 0 in
theorem PySem.Challenge.cw_slideyards_k06_whole_moves_taken_back_holds : PySem.Challenge.rw_slideyards_k06_whole_moves_taken_back.Holds := by
  w_on; o_law; k_head; (case hw => w_witness2)
  k_fill
  refine Y.walk (l := PySem.Challenge.rw_slideyards_k06_whole_moves_taken_back) rfl rfl (fun w h Y => PySem.W.kIn_of Y) ?F
  case F =>
    intro w mg fa h KX G hmg
    refine' Y.all_mk KX G hmg ?aC0 ?pg0 ?hd0 ?po0 ?sa0 ?mk0 ?kc0 ?n0_0 ?n0_1 ?n0_2 ?a0 ?i0 ?l0 ?c0 ?k0 ?a1 ?l1 ?c1 ?k1 ?a2 ?l2 ?c2 ?k2 ?a3 ?l3 ?c3 ?k3 ?a4 ?l4 ?c4 ?k4 ?a5 ?l5 ?c5 ?k5 ?a6 ?l6 ?c6 ?k6 ?a7 ?l7 ?c7 ?k7 ?a8 ?l8 ?c8 ?k8 ?a9 ?l9 ?c9 ?k9 ?a10 ?l10 ?c10 ?k10 ?a11 ?l11 ?c11 ?k11 ?a12 ?l12 ?c12 ?k12 ?a13 ?l13 ?c13 ?k13 ?a14 ?l14 ?c14 ?k14 ?a15 ?l15 ?c15 ?k15 ?a16 ?l16 ?c16 ?k16 ?a17 ?l17 ?c17 ?k17 ?a18 ?l18 ?c18 ?k18 ?a19 ?l19 ?c19 ?k19 ?a20 ?l20 ?c20 ?k20 ?a21 ?l21 ?c21 ?k21 ?a22 ?l22 ?c22 ?k22 ?a23 ?l23 ?c23 ?k23 ?a24 ?l24 ?c24 ?k24 ?a25 ?l25 ?c25 ?k25 ?a26 ?l26 ?c26 ?k26 ?a27 ?l27 ?c27 ?k27 ?a28 ?l28 ?c28 ?k28 ?a29 ?l29 ?c29 ?k29 ?a30 ?l30 ?c30 ?k30 ?z0 ?z1 ?z2 ?z3 ?z4 ?z5 ?z6 ?z7 ?z8 ?z9 ?z10 ?z11 ?z12 ?z13
    (case aC0 => k_is); (case pg0 => k_is); (case hd0 => k_is); (case po0 => k_is); (case sa0 => k_is); (case mk0 => k_is)
    (case kc0 => k_is); (case n0_0 => k_is); (case n0_1 => k_is); (case n0_2 => k_is); (case a0 => k_is); (case i0 => k_is)
    (case l0 => k_is); (case c0 => k_is); (case k0 => k_is); (case a1 => k_is); (case l1 => k_is); (case c1 => k_is)
    (case k1 => k_is); (case a2 => k_is); (case l2 => k_is); (case c2 => k_is); (case k2 => k_is); (case a3 => k_is)
    (case l3 => k_is); (case c3 => k_is); (case k3 => k_is); (case a4 => k_is); (case l4 => k_is); (case c4 => k_is)
    (case k4 => k_is); (case a5 => k_is); (case l5 => k_is); (case c5 => k_is); (case k5 => k_is); (case a6 => k_is)
    (case l6 => k_is); (case c6 => k_is); (case k6 => k_is); (case a7 => k_is); (case l7 => k_is); (case c7 => k_is)
    (case k7 => k_is); (case a8 => k_is); (case l8 => k_is); (case c8 => k_is); (case k8 => k_is); (case a9 => k_is)
    (case l9 => k_is); (case c9 => k_is); (case k9 => k_is); (case a10 => k_is); (case l10 => k_is); (case c10 => k_is)
    (case k10 => k_is); (case a11 => k_is); (case l11 => k_is); (case c11 => k_is); (case k11 => k_is); (case a12 => k_is)
    (case l12 => k_is); (case c12 => k_is); (case k12 => k_is); (case a13 => k_is); (case l13 => k_is); (case c13 => k_is)
    (case k13 => k_is); (case a14 => k_is); (case l14 => k_is); (case c14 => k_is); (case k14 => k_is); (case a15 => k_is)
    (case l15 => k_is); (case c15 => k_is); (case k15 => k_is); (case a16 => k_is); (case l16 => k_is); (case c16 => k_is)
    (case k16 => k_is); (case a17 => k_is); (case l17 => k_is); (case c17 => k_is); (case k17 => k_is); (case a18 => k_is)
    (case l18 => k_is); (case c18 => k_is); (case k18 => k_is); (case a19 => k_is); (case l19 => k_is); (case c19 => k_is)
    (case k19 => k_is); (case a20 => k_is); (case l20 => k_is); (case c20 => k_is); (case k20 => k_is); (case a21 => k_is)
    (case l21 => k_is); (case c21 => k_is); (case k21 => k_is); (case a22 => k_is); (case l22 => k_is); (case c22 => k_is)
    (case k22 => k_is); (case a23 => k_is); (case l23 => k_is); (case c23 => k_is); (case k23 => k_is); (case a24 => k_is)
    (case l24 => k_is); (case c24 => k_is); (case k24 => k_is); (case a25 => k_is); (case l25 => k_is); (case c25 => k_is)
    (case k25 => k_is); (case a26 => k_is); (case l26 => k_is); (case c26 => k_is); (case k26 => k_is); (case a27 => k_is)
    (case l27 => k_is); (case c27 => k_is); (case k27 => k_is); (case a28 => k_is); (case l28 => k_is); (case c28 => k_is)
    (case k28 => k_is); (case a29 => k_is); (case l29 => k_is); (case c29 => k_is); (case k29 => k_is); (case a30 => k_is)
    (case l30 => k_is); (case c30 => k_is); (case k30 => k_is); (case z0 => k_is); (case z1 => k_is); (case z2 => k_is)
    (case z3 => k_is); (case z4 => k_is); (case z5 => k_is); (case z6 => k_is); (case z7 => k_is); (case z8 => k_is)
    (case z9 => k_is); (case z10 => k_is); (case z11 => k_is); (case z12 => k_is); (case z13 => k_is)
