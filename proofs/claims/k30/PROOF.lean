import PyProof.Rows.All
import Wide.All
import OpenK.AllK
import Wide.FinOn
import HandS.ForMost
import HandS.DictComp
import PyProof.Rows.TupDisplay
import HandS.Walk
import HandS.Dict
import HandS.NoneIn
import PyProof.DictFindH
import PyProof.DictRoadsH
import PyProof.EqKinds
import PyProof.EnumMake
import PyProof.Draws
import KE.GoesMore
import HandS.ForExc
import HandS.Lambda
import HandS.EndTab
import HandS.TupSets
import HandS.SetFor
import HandS.Wide
import HandS.Conv
import PyProof.ListIndex
import HandS.Rev
import HandS.Comp
import HandS.ExcInit
import HandS.ExcField
import HandS.IsInst
import KE.KExcIs
import PyProof.ReprRoads
import KE.KRevSl
import HandS.Style
import HandS.More
import PyProof.DictMoreH
import KE.KIntText
import HandS.SortInts
import HandS.Deep
import PyProof.P3In
import HandS.NamedTupSort
import KE.KDictCopyH
import PyProof.DictTruth
import HandS.Strs
import HandS.TupAny
import PySem.Challenge.RW_slideyards_k30_whole_puzzles_made
import HandS.Codes
import HandS.Flow
import PyProof.EqAt
import HandS.WordsExc
import HandS.Records
import HandS.Defaults
import HandS.RaiseMore
import HandS.OwnEq
import HandS.Words
set_option Elab.async false
set_option linter.all false
set_option maxRecDepth 100000
set_option maxHeartbeats 2000000
/-! dict comprehensions whose keys are tuples -/
namespace L2
open PySem PySem.Spec PyProof.Rows
section
variable {X : Cx} {pins : List (Addr × Obj)} {σ : St} {s : Shared} {H : Hp}
/-- a pair is put into the new dict -/
theorem dT_put {D b : Addr} {kvs : List (List Key × V)} {k : List Key} {z : V} {r : Value} {Ex : Value → Shared → Prop} {Q : Unit → Shared → Prop} (hu : X.A.units + 1 < cLine) (I : Inv X pins σ H s) (at_ : H D = some (.dT kvs)) (room : kvs.length < sizeLine)
    (key : H b = some (.tup (k.map kV))) (rz : RelV z r) (fin : ∀ s1, Inv X pins σ (upd H D (.dT (putK kvs k z))) s1 → Q () s1) : wpAny (model X.prog X.w) X.A (dictSet D (.ref b) r) Q Ex s := by
  obtain ⟨l0, sys, xs, rel, dd⟩ := dt_of I.hok at_
  have l1 : xs.length ≤ sizeLine := Paired.length rel ▸ l0
  have l2 : (putK kvs k z).length ≤ sizeLine := Nat.le_trans (length_putK kvs k z) room
  refine wpAny_dictSet_heap (hsz := l1) (show X.A.units < cLine from Nat.lt_of_succ_lt hu) (key_of I.hok key) dd fun h1 dd1 sb => fin _ ?_
  obtain ⟨q, es, ep, hq, e2, e3, e4, _, e5⟩ := dd1
  exact d_write I (at_ ▸ True.intro) sb ⟨q, hq⟩ ⟨l2, sys, _, (rel.put k key rz).keeps fun c ys ec => (upd_ne (ne_of ec at_ fun z => nomatch z)).trans ec, q, es, ep, hq, e2, e3, e4, e5⟩
/-- {k: v for target in iter if ..}, the keys tuples: D is the new dict -/
def tDcT (wi : TI) (g : TG) (tt : TT) (tk tv : TE) (vs : List Nat) : TE := fun σ H Q => wi σ H fun J H1 => ∀ D, H1 D = none →
  ∃ W : Nat → Nat → Hp → Prop, (∃ m, W 0 m (upd H1 D (.dT []))) ∧ ∀ i m H, W i m H → (J.stop i H ∧ Q (.ref D) H) ∨
    (J.go i H ∧ ∃ Nx : Hp → Prop, (∀ H', Nx H' → ∃ m', m' < m ∧ W (i + 1) m' H') ∧ ∀ x H', J.yld i H x H' → g x (wipe σ vs) H' fun σ2 H2 => wipe σ2 vs = wipe σ vs ∧ tt σ2 H2 fun b H3 =>
      if b = true then tk σ2 H3 fun y H4 => tv σ2 H4 fun z H5 => ∃ (kvs : List (List Key × V)) (k : List Key) (kb : Addr), y = .ref kb ∧ H5 kb = some (.tup (k.map kV)) ∧ H5 D = some (.dT kvs) ∧ kvs.length < sizeLine ∧ Nx (upd H5 D (.dT (putK kvs k z))) else Nx H3)
theorem dcT_go {Q : VK} {kx vx tg iter : Expr} {ifs : List Expr} {scope : Scope} {own : List (Str × Nat)} {pos pos' : Pos} {wi : TI} {g : TG} {tt : TT} {tk tv : TE} {use : Option (Value → Sem Unit)} {Qf : Value → Shared → Prop} (hu : X.A.units + 1 < cLine)
    (calm : X.calm = true) (nd : X.N.Nodup) (I : Inv X pins σ H s) (walk : PI X tg iter wi) (blk : BlkOk X.N X.env.scope scope own)
    (target : ∀ (s : Shared) (H : Hp) (C : Addr) (cl : List (Str × Addr)) (fp : List Addr), PG (X.blk s H scope (compEnvC scope cl C X.env) fp) tg g)
    (tests : ∀ (s : Shared) (H : Hp) (C : Addr) (cl : List (Str × Addr)) (fp : List Addr), PTs (X.blk s H scope (compEnvC scope cl C X.env) fp) ifs tt)
    (keys : ∀ (s : Shared) (H : Hp) (C : Addr) (cl : List (Str × Addr)) (fp : List Addr), PE (X.blk s H scope (compEnvC scope cl C X.env) fp) kx tk)
    (vals : ∀ (s : Shared) (H : Hp) (C : Addr) (cl : List (Str × Addr)) (fp : List Addr), PE (X.blk s H scope (compEnvC scope cl C X.env) fp) vx tv) (same : ∀ x, foldedSetIterable iter X.env x = pure x)
    (h : tDcT wi g tt tk tv (own.map (·.2)) σ H Q)
    (post : ∀ D C s' m H', Inv X pins σ H' s' → Q (.ref D) H' → s'.heap.Ns C m → FpOk X pins H' C → compPost (model X.prog X.w) X.A X.xe use Qf (.ref D) C (.ok .next) s') :
    wpAny (model X.prog X.w) X.A (comprehension (.DictComp kx vx [⟨tg, iter, ifs, 0⟩] scope pos) scope X.env pos' newDict false (eval iter X.env) use) Qf X.xe s := by
  have cells : ∀ y ∈ scope.names, y.2 = .free → ∃ c, X.env.cells.lookup y.1 = some c := fun y hy e => (blk.free y hy e).elim (fun k => I.ok.has _ (.inl k)) fun k => I.ok.has _ (.inr k)
  refine wpAny_comprehension_free (use := use) rfl same (closure_ok cells) blk.kind (fun y hy e => by rw [blk.uniq y hy, e]) (thn (walk.run pins s σ H _ I h) fun xv s1 hx => thn hx fun itv s2 h2 => ?_)
  obtain ⟨it, fp, tn, J, H2, rfl, I2, T, st2, f2, q⟩ := h2
  refine wpAny_newObj_type (newEnv_comp (?_ : codeAny _ _ _ _ _))
  generalize eD : s2.heap.objs.size = D
  obtain ⟨W, ⟨m0, w0⟩, turn⟩ := q D (I2.hok.fresh (Nat.le_of_eq eD))
  generalize e3 : ({ s2 with heap := s2.heap.push { cls := .type "dict", data := .dict #[] } } : Shared) = s3
  have I3 : Inv X pins σ (upd H2 D (.dT [])) s3 := by
    subst e3 eD
    exact I2.laid (t' := s2.toks) (fun b o e => Heap.get?_push_of_some _ e) (Nat.le_refl _) (dt_empty s2.heap I2.big)
  have hp3 : s3.heap = s2.heap.push { cls := .type "dict", data := .dict #[] } := by rw [← e3]
  have f3 : ∀ b ∈ fp, FpOk X pins (upd H2 D (.dT [])) b ∧ b < s3.heap.objs.size := fun b hb => by
    obtain ⟨o, eo, _⟩ := T.obj _ _ st2 b hb
    have lt := Heap.lt_size eo
    exact ⟨⟨by rw [upd_ne (eD ▸ Nat.ne_of_lt lt)]; exact (f2 b hb).1, (f2 b hb).2⟩, by rw [hp3, Heap.size_push]; exact Nat.lt_succ_of_lt lt⟩
  have st3 : tn 0 s3.heap := T.keep _ _ _ st2 fun b _ o e => hp3 ▸ Heap.get?_push_of_some _ e
  have I4 := block_start I3 blk nd f3
  have pg := target s3 (upd H2 D (.dT [])) s3.heap.objs.size (cellsFrom (s3.heap.objs.size + 1) scope.names (cloFrom X.env.cells scope.names [])) fp
  have pt := tests s3 (upd H2 D (.dT [])) s3.heap.objs.size (cellsFrom (s3.heap.objs.size + 1) scope.names (cloFrom X.env.cells scope.names [])) fp
  have pk := keys s3 (upd H2 D (.dT [])) s3.heap.objs.size (cellsFrom (s3.heap.objs.size + 1) scope.names (cloFrom X.env.cells scope.names [])) fp
  have pz := vals s3 (upd H2 D (.dT [])) s3.heap.objs.size (cellsFrom (s3.heap.objs.size + 1) scope.names (cloFrom X.env.cells scope.names [])) fp
  show codeAny _ _ (.compStart (.DictComp kx vx [⟨tg, iter, ifs, 0⟩] scope pos) 0 (.ref it) (.ref D) (compEnvC scope (cellsFrom (s3.heap.objs.size + 1) scope.names (cloFrom X.env.cells scope.names [])) s3.heap.objs.size X.env))
    (compPost (model X.prog X.w) X.A X.xe use Qf (.ref D) s3.heap.objs.size) { s3 with heap := pushCells (s3.heap.push { cls := .type "dict", data := .dict #[] }) scope.names }
  have free3 : ∀ b ∈ fp, (upd H2 D (.dT [])) b = none := fun b hb => (f3 b hb).1.1
  generalize ec : compEnvC scope (cellsFrom (s3.heap.objs.size + 1) scope.names (cloFrom X.env.cells scope.names [])) s3.heap.objs.size X.env = ce at I4 pg pt pk pz ⊢
  have locs : ce.locals = s3.heap.objs.size := ec ▸ rfl
  generalize upd H2 D (.dT []) = H3 at I3 I4 pg pt pk pz w0 free3 f3
  generalize e4 : ({ s3 with heap := pushCells (s3.heap.push { cls := .type "dict", data := .dict #[] }) scope.names } : Shared) = s4 at I4 ⊢
  have st4 : tn 0 s4.heap := T.keep _ _ _ st3 fun b _ o e => e4 ▸ pushCells_keeps _ _ _ _ (Heap.get?_push_of_some _ e)
  have foot : ∀ {σ' : St} {H' : Hp} {s' : Shared}, Inv (X.blk s3 H3 scope ce fp) [] σ' H' s' → (∀ b ∈ fp, H' b = none) → ∀ b ∈ fp, FpOk (X.blk s3 H3 scope ce fp) [] H' b := fun {σ' H' s'} I' n b hb =>
    ⟨n b hb, (I'.ok.exf b hb).1, I'.ok.exfs b hb, .inl hb, fun x c e => (I'.ok.exf b hb).2 x c e, fun p hp => absurd (show p ∈ ([] : List (Addr × Obj)) ++ [] from hp) (by simp)⟩
  refine codeAny_compStart_dict ?_ (T.self X.A 0 _ _ _ st4 ?_)
  all_goals
    refine compLoop_anyD (fun n s' => ∃ i H', Inv (X.blk s3 H3 scope ce fp) [] (wipe σ (own.map (·.2))) H' s' ∧ tn i s'.heap ∧ (∀ b ∈ fp, H' b = none) ∧ W i n H') ?_ m0 ⟨0, H3, I4, st4, free3, w0⟩
    rintro n s5 ⟨i, H5, I5, st5, n5, w5⟩
    rcases turn i n H5 w5 with ⟨stop, qq⟩ | ⟨go, Nx, next, body⟩
    · refine thnF (T.done (X.blk s3 H3 scope ce fp) rfl rfl rfl calm i [] s5 _ H5 (fun _ _ => False) I5 (foot I5 n5) st5 stop) fun r s6 hr6 => ?_
      obtain ⟨rfl, I6⟩ := hr6
      have back : Inv X pins σ H5 s6 := I3.call' (ch := fp) I6.os I6.base I6.hok I6.bare fun b hb => ⟨(f3 b hb).1.2.2.2.1, (f3 b hb).1.2.1, (f3 b hb).1.2.2.2.2.1, (f3 b hb).1.2.2.2.2.2⟩
      obtain ⟨m, hm, _⟩ := I6.loc
      exact post D s3.heap.objs.size s6 m H5 back qq (locs ▸ (show s6.heap.Ns ce.locals m from hm)) (I3.fpOk (Nat.le_refl _) (locs ▸ (show H5 ce.locals = none from I6.free)))
    · refine thnF (T.item (X.blk s3 H3 scope ce fp) rfl rfl rfl calm i [] s5 _ H5 (fun _ _ => False) I5 (foot I5 n5) st5 go) fun r s6 hr6 => ?_
      obtain ⟨u, rfl, h6⟩ := hr6
      refine thnF h6 fun _ s7 ⟨x, H7, I7, r7, y7, st7, n7⟩ => ?_
      refine thnF (pg.run _ s7 _ H7 x u _ (I7.pinned (foot I7 n7) (T.obj _ _ st7)) r7 (body x H7 y7)) fun _ s8 ⟨σ8, H8, I8, hw8, q8⟩ => ?_
      refine thnF (pt.run _ s8 σ8 H8 _ I8 q8) fun b s9 ⟨H9, I9, q9⟩ => ?_
      have over : ∀ {s' : Shared} {H' : Hp}, Inv (X.blk s3 H3 scope ce fp) ([] ++ pinsAt fp s7.heap) σ8 H' s' → Nx H' →
          ∃ m, m < n ∧ ∃ i H', Inv (X.blk s3 H3 scope ce fp) [] (wipe σ (own.map (·.2))) H' s' ∧ tn i s'.heap ∧ (∀ b ∈ fp, H' b = none) ∧ W i m H' := fun {s' H'} I' nx => by
        obtain ⟨m', lt, w'⟩ := next H' nx
        have pin : ∀ b ∈ fp, ∀ o, s7.heap.get? b = some o → s'.heap.get? b = some o ∧ H' b = none := fun b hb o e => (I'.pin (b, o) (List.mem_append_right _ (List.mem_append_right _ (mem_pinsAt hb e)))).imp id And.left
        refine ⟨m', lt, i + 1, H', (I'.unpinned (pins := [])).weak (by rw [← hw8, wipe_length]) (fun j v e => (wipe_some (hw8 ▸ e)).1), T.keep _ _ _ st7 fun b hb o e => (pin b hb o e).1, fun b hb => ?_, w'⟩
        obtain ⟨o, e, _⟩ := T.obj _ _ st7 b hb
        exact (pin b hb o e).2
      cases b with
      | false => exact over I9 q9
      | true =>
        refine thnF (pk.run _ s9 σ8 H9 _ I9 q9) fun z s10 ⟨yk, H10, I10, r10, q10⟩ => ?_
        refine thnF (pz.run _ s10 σ8 H10 _ I10 q10) fun z2 s11 ⟨yv, H11, I11, r11, kvs, k, kb, ek, key, at_, room, nx⟩ => ?_
        subst ek
        cases (show z = Value.ref kb from r10)
        exact dT_put (X := X.blk s3 H3 scope ce fp) hu I11 at_ room key r11 fun s12 I12 => over I12 nx
/-- as a value -/
theorem pe_dcT {kx vx tg iter : Expr} {ifs : List Expr} {scope : Scope} {own : List (Str × Nat)} {pos : Pos} {wi : TI} {g : TG} {tt : TT} {tk tv : TE} (hu : X.A.units + 1 < cLine) (calm : X.calm = true) (nd : X.N.Nodup) (walk : PI X tg iter wi) (blk : BlkOk X.N X.env.scope scope own)
    (target : ∀ (s : Shared) (H : Hp) (C : Addr) (cl : List (Str × Addr)) (fp : List Addr), PG (X.blk s H scope (compEnvC scope cl C X.env) fp) tg g)
    (tests : ∀ (s : Shared) (H : Hp) (C : Addr) (cl : List (Str × Addr)) (fp : List Addr), PTs (X.blk s H scope (compEnvC scope cl C X.env) fp) ifs tt)
    (keys : ∀ (s : Shared) (H : Hp) (C : Addr) (cl : List (Str × Addr)) (fp : List Addr), PE (X.blk s H scope (compEnvC scope cl C X.env) fp) kx tk)
    (vals : ∀ (s : Shared) (H : Hp) (C : Addr) (cl : List (Str × Addr)) (fp : List Addr), PE (X.blk s H scope (compEnvC scope cl C X.env) fp) vx tv) (same : ∀ x, foldedSetIterable iter X.env x = pure x := by intro _; rfl) :
    PE X (.DictComp kx vx [⟨tg, iter, ifs, 0⟩] scope pos) (tDcT wi g tt tk tv (own.map (·.2))) :=
  ⟨fun pins s σ H Q I h => by
    rw [arm_eval_DictComp]
    exact dcT_go hu calm nd I walk blk target tests keys vals same h fun D C s' m H' I' q hn ⟨f0, f1, f2, f3, f4, f5⟩ => ⟨m, hn, fun h'' sb => ⟨.ref D, H', I'.turned (t' := s'.toks) (fun b o hb e => (sb.2 b hb).trans e) f0 f1 f3 f4 f5, rfl, q⟩⟩⟩
/-- x = {..}: the new dict is bound before the block's frame goes -/
theorem ps_setDcT {i : Nat} {y : Str} {py : Pos} {kx vx tg iter : Expr} {ifs : List Expr} {scope : Scope} {own : List (Str × Nat)} {pos spos : Pos} {wi : TI} {g : TG} {tt : TT} {tk tv : TE} (hu : X.A.units + 1 < cLine) (calm : X.calm = true) (nd : X.N.Nodup) (at_ : X.N[i]? = some y) (loc : X.env.scope.names.lookup y = some .local)
    (swap : swapsWith (.DictComp kx vx [⟨tg, iter, ifs, 0⟩] scope pos) (some (.Name y py)) spos.line X.env = pure true) (walk : PI X tg iter wi) (blk : BlkOk X.N X.env.scope scope own)
    (target : ∀ (s : Shared) (H : Hp) (C : Addr) (cl : List (Str × Addr)) (fp : List Addr), PG (X.blk s H scope (compEnvC scope cl C X.env) fp) tg g)
    (tests : ∀ (s : Shared) (H : Hp) (C : Addr) (cl : List (Str × Addr)) (fp : List Addr), PTs (X.blk s H scope (compEnvC scope cl C X.env) fp) ifs tt)
    (keys : ∀ (s : Shared) (H : Hp) (C : Addr) (cl : List (Str × Addr)) (fp : List Addr), PE (X.blk s H scope (compEnvC scope cl C X.env) fp) kx tk)
    (vals : ∀ (s : Shared) (H : Hp) (C : Addr) (cl : List (Str × Addr)) (fp : List Addr), PE (X.blk s H scope (compEnvC scope cl C X.env) fp) vx tv) (same : ∀ x, foldedSetIterable iter X.env x = pure x := by intro _; rfl) :
    PS X (.Assign [.Name y py] (.DictComp kx vx [⟨tg, iter, ifs, 0⟩] scope pos) spos) (tAsg (tDcT wi g tt tk tv (own.map (·.2))) (gName i)) := by
  refine ⟨fun pins s σ H D I h => ?_⟩
  rw [exec_Assign_Name_used _ _ _ _ swap]
  have h : tDcT wi g tt tk tv (own.map (·.2)) σ H (fun x H1 => gName i x σ H1 D.nx) := h
  have go := dcT_go (pos := pos) (pos' := firstIterPos [⟨tg, iter, ifs, 0⟩] pos) (use := some (assign (.Name y py) X.env)) (Qf := fun _ s' => SP X pins D .next s') hu calm nd I walk blk target tests keys vals same h fun L C s' m H' I' q hn ⟨f0, f1, f2, f3, f4, f5⟩ =>
    show wpAny _ _ (assign (.Name y py) X.env (.ref L)) _ _ _ from wpAny_assign_Name (store_ok2 (v := V.ref L) I' nd at_ (.inl loc) rfl (fun s2 I2 ⟨a, sb, ha⟩ => ⟨m, hn.sameBut sb (ha.elim (fun z => z ▸ f1) fun z e => f4 y a z e.symm), fun h3 sb3 =>
      ⟨_, H', I2.turned (t' := s2.toks) (fun b o hb e => (sb3.2 b hb).trans e) f0 f1 f3 f4 f5, q⟩⟩) (.inr loc))
  exact wpAny_bind (wpAny_standAt (wpAny_bind (wpAny_bind (thn go fun _ s' hq => wpAny_pure (wpAny_pure hq)))))
theorem sw_dict {kx vx : Expr} {gs : List Comprehension} {scope : Scope} {pos py : Pos} {y : Str} {l : Nat} {env : Env} (kind : env.scope.kind = .function) (loc : env.scope.names.lookup y = some .local) (line : (py.line == pos.line) = true)
    (off : (scope.names.any fun (n, k) => n == y && (k == .local || k == .cell)) = false) : swapsWith (.DictComp kx vx gs scope pos) (some (.Name y py)) l env = pure true := by
  have e1 : env.kindOf y = some .local := loc
  have e2 : env.blockKind = .function := by rw [Env.blockKind, kind]; rfl
  simp only [swapsWith, e2, e1, off, Expr.pos, line]
  rfl
/-- {k: v}, the key a tuple -/
def tDisp1T (tk tv : TE) : TE := fun σ H Q => ∀ p, H p = none → tk σ (upd H p (.dT [])) fun y H1 => tv σ H1 fun z H2 => ∃ (kb : Addr) (ks : List Key), y = .ref kb ∧ H2 kb = some (.tup (ks.map kV)) ∧ H2 p = some (.dT []) ∧ Q (.ref p) (upd H2 p (.dT [(ks, z)]))
theorem pe_disp1T {k v : Expr} {pos : Pos} {tk tv : TE} (hu : X.A.units + 1 < cLine) (hk : PE X k tk) (hv : PE X v tv) : PE X (.Dict [some k] [v] pos) (tDisp1T tk tv) := by
  refine ⟨fun pins s σ H Q I h => wpAny_Dict_any rfl rfl (by simp) (by show 1 ≤ 15; decide) ?_⟩
  have new := I.hok.fresh (Nat.le_refl s.heap.objs.size)
  have I1 := I.laid (a := s.heap.objs.size) (o := .dT []) (h' := s.heap.push { cls := .type "dict", data := .dict #[] }) (t' := s.toks) (fun _ _ q => Heap.get?_push_of_some _ q) (Nat.le_refl _) (dt_empty s.heap I.big)
  refine pairTrees_cons_walk (thn (hk.run pins _ σ _ _ I1 (h _ new)) fun u s1 ⟨y, H1, I2, ry, q1⟩ => thn (hv.run pins s1 σ H1 _ I2 q1) fun w2 s2 ⟨z, H2, I3, rz, kb, ks, ey, key, at_, q2⟩ => pairTrees_nil_walk ?_)
  subst ey
  cases (show u = Value.ref kb from ry)
  unfold storeAll
  rw [List.forIn_cons]
  exact wpAny_bind (wpAny_bind (dT_put hu I3 at_ (by decide) key rz fun s3 I4 => wpAny_pure (wpAny_pure ⟨.ref _, _, I4, rfl, q2⟩)))
/-- over any walk -/
theorem dcT_it {J : It} {n : Nat} {G : Hp → Prop} {Y : Nat → Hp → V → Hp → Prop} (w : Walk J n G Y) {g : TG} {tt : TT} {tk tv : TE} {vs : List Nat} {σ : St} {H1 : Hp} {D : Addr} {Qd : Hp → Prop} (Pv : Nat → Hp → Prop) (h0 : Pv 0 (upd H1 D (.dT []))) (hG : ∀ i H, i ≤ n → Pv i H → G H)
    (hs : ∀ i x H H', i < n → Pv i H → Y i H x H' → g x (wipe σ vs) H' fun σ2 H2 => wipe σ2 vs = wipe σ vs ∧ tt σ2 H2 fun b H3 =>
      if b = true then tk σ2 H3 fun y H4 => tv σ2 H4 fun z H5 => ∃ (kvs : List (List Key × V)) (k : List Key) (kb : Addr), y = .ref kb ∧ H5 kb = some (.tup (k.map kV)) ∧ H5 D = some (.dT kvs) ∧ kvs.length < sizeLine ∧ Pv (i + 1) (upd H5 D (.dT (putK kvs k z))) else Pv (i + 1) H3)
    (hd : ∀ H, Pv n H → Qd H) : ∃ W : Nat → Nat → Hp → Prop, (∃ m, W 0 m (upd H1 D (.dT []))) ∧ ∀ i m H, W i m H → (J.stop i H ∧ Qd H) ∨
      (J.go i H ∧ ∃ Nx : Hp → Prop, (∀ H', Nx H' → ∃ m', m' < m ∧ W (i + 1) m' H') ∧ ∀ x H', J.yld i H x H' → g x (wipe σ vs) H' fun σ2 H2 => wipe σ2 vs = wipe σ vs ∧ tt σ2 H2 fun b H3 =>
        if b = true then tk σ2 H3 fun y H4 => tv σ2 H4 fun z H5 => ∃ (kvs : List (List Key × V)) (k : List Key) (kb : Addr), y = .ref kb ∧ H5 kb = some (.tup (k.map kV)) ∧ H5 D = some (.dT kvs) ∧ kvs.length < sizeLine ∧ Nx (upd H5 D (.dT (putK kvs k z))) else Nx H3) := by
  refine ⟨fun i m H => m + i = n ∧ Pv i H, ⟨n, rfl, h0⟩, fun i m H ⟨e, p⟩ => ?_⟩
  cases m with
  | zero =>
    obtain rfl : i = n := by omega
    exact .inl ⟨w.stops H (hG i H (Nat.le_refl i) p), hd H p⟩
  | succ m =>
    have lt : i < n := by omega
    have g1 := hG i H (Nat.le_of_lt lt) p
    exact .inr ⟨w.goes i H lt g1, Pv (i + 1), fun H' p' => ⟨m, Nat.lt_succ_self m, by omega, p'⟩, fun x H' y => hs i x H H' lt p (w.yields i H x H' lt g1 y)⟩
end
end L2
set_option Elab.async false
set_option linter.all false
set_option maxRecDepth 100000
set_option maxHeartbeats 2000000
/-! None asked for among the keys of a dict by rows: never there -/
namespace PySem
open Sem (wp)
section
variable {prog : Program} {w : World} {A : Around} {E : Value → Shared → Prop} {s : Shared}
theorem quiet_none {Q : Bool → Shared → Prop} (h : Q true s) : wpAny (model prog w) A (eqIsQuiet 8 .none) Q E s := by
  unfold eqIsQuiet
  exact wpAny_pure h
variable {K : Type} [DecidableEq K] {knd : HeapKind prog w K}
theorem tells_none {stored : List Value} {Q : Bool → Shared → Prop} (hst : ∀ v ∈ stored, ∃ k' b, v = .ref b ∧ knd.is s.heap k' b) (h : Q false s) : wpAny (model prog w) A (tableMayTell .none stored) Q E s := by
  unfold tableMayTell
  split
  · exact wpAny_pure h
  · refine wpAny_bind (quiet_none ?_)
    simp only [Bool.not_true, Bool.false_eq_true, if_false]
    refine wpAny_bind ?_
    refine wpAny_forIn_list _ (fun rest r s' => s' = s ∧ r = (none, ()) ∧ ∀ v ∈ rest, ∃ k' b, v = .ref b ∧ knd.is s.heap k' b) _ ?_ ?_ _ _ ⟨rfl, rfl, hst⟩
    · rintro x rest r s' ⟨rfl, rfl, hr⟩
      obtain ⟨k', b, rfl, hb⟩ := hr x List.mem_cons_self
      refine wpAny_bind (knd.quiet hb ?_)
      simp only [Bool.not_true, Bool.false_eq_true, if_false]
      exact wpAny_pure ⟨rfl, rfl, fun v hv => hr v (List.mem_cons_of_mem _ hv)⟩
    · rintro r s' ⟨rfl, rfl, _⟩
      exact wpAny_pure h
/-- every key stands as a tuple -/
def AllTup (knd : HeapKind prog w K) : Prop := ∀ {s : Shared} {k : K} {a : Addr}, knd.is s.heap k a → ∃ items, s.heap.IsTuple a items
theorem find_none {d : Addr} {o : Obj} {es ep} {xs : List (K × Addr × Value)} {hh : Int} {Q : Option Nat → Shared → Prop} (hu : A.units < cLine) (at_ : AllTup knd)
    (ho : s.heap.get? d = some o) (hd : o.data = .dict es ep) (he : es.toList = xs.map (entryOfKey knd)) (his : ∀ x ∈ xs, knd.is s.heap x.1 x.2.1) (h : Q none s) : wpAny (model prog w) A (dictFind d .none hh) Q E s := by
  have hmem : ∀ e ∈ es, ∃ x ∈ xs, e = entryOfKey knd x := by
    intro e hin
    have : e ∈ xs.map (entryOfKey knd) := he ▸ Array.mem_toList_iff.mpr hin
    obtain ⟨x, hx, rfl⟩ := List.mem_map.mp this
    exact ⟨x, hx, rfl⟩
  have hst : ∀ v ∈ (placesWithHash es.size (fun i => es[i]?.map (·.hash)) hh).filterMap (fun i => es[i]?.map (·.key)), ∃ k' b, v = .ref b ∧ knd.is s.heap k' b := by
    intro v hv
    obtain ⟨i, _, hi⟩ := List.mem_filterMap.mp hv
    cases hei : es[i]? with
    | none => rw [hei] at hi; cases hi
    | some e =>
      rw [hei] at hi
      obtain rfl : e.key = v := by simpa using hi
      obtain ⟨x, hx, rfl⟩ := hmem e (Array.mem_of_getElem? hei)
      exact ⟨x.1, x.2.1, rfl, his x hx⟩
  unfold dictFind
  try with_reducible refine wpAny_holding ?_
  refine wpAny_bind (wpAny_dictEntries ho hd ?_)
  dsimp only
  generalize hpl : placesWithHash es.size (fun i => es[i]?.map (·.hash)) hh = places at hst ⊢
  have hsome : ∀ i ∈ places, ∃ e, es[i]? = some e := fun i hi => by
    rw [← hpl] at hi
    unfold placesWithHash at hi
    rw [List.mem_filter] at hi
    cases hei : es[i]? with
    | none =>
      have h2 : (Option.map (fun x => x.hash) es[i]? == some hh) = true := hi.2
      rw [hei] at h2
      cases h2
    | some e => exact ⟨e, rfl⟩
  by_cases hall : (Value.none :: places.filterMap (fun i => es[i]?.map (·.key))).all carriedByValue = true
  · rw [if_pos hall]
    have pn : places = [] := by
      cases places with
      | nil => rfl
      | cons i r =>
        obtain ⟨e, hei⟩ := hsome i List.mem_cons_self
        obtain ⟨k', b, ek, _⟩ := hst e.key (List.mem_filterMap.mpr ⟨i, List.mem_cons_self, by rw [hei]; rfl⟩)
        have := List.all_eq_true.mp hall e.key (List.mem_cons_of_mem _ (List.mem_filterMap.mpr ⟨i, List.mem_cons_self, by rw [hei]; rfl⟩))
        rw [ek] at this
        cases this
    subst pn
    unfold dictWalkPlain
    refine wpAny_bind ?_
    refine wpAny_forIn_list _ (fun rest r s' => s' = s ∧ rest = [] ∧ r = (none, ())) _ ?_ ?_ _ _ ⟨rfl, rfl, rfl⟩
    · rintro x rest r s' ⟨_, hr, _⟩
      cases hr
    · rintro r s' ⟨rfl, _, rfl⟩
      exact wpAny_pure h
  · rw [if_neg hall]
    have hone : ¬ ((places.filterMap (fun i => es[i]?.map (·.key))) == [Value.none]) = true := fun z => by
      have e := eq_of_beq z
      obtain ⟨k', b, ek, _⟩ := hst .none (by rw [e]; exact List.mem_singleton.mpr rfl)
      cases ek
    first | rw [if_neg hone] | skip
    refine wpAny_bind (tells_none hst ?_)
    rw [if_neg (by simp)]
    refine wpAny_bind ?_
    refine wpAny_forIn_list _ (fun rest r s' => s' = s ∧ r = (none, none) ∧ ∀ i ∈ rest, i ∈ places) _ ?_ ?_ _ _ ⟨rfl, rfl, fun i hi => hi⟩
    · rintro i rest r s' ⟨rfl, rfl, hr⟩
      obtain ⟨e, hei⟩ := hsome i (hr i List.mem_cons_self)
      obtain ⟨x, hx, rfl⟩ := hmem e (Array.mem_of_getElem? hei)
      obtain ⟨items, hit⟩ := at_ (his x hx)
      rw [hei]
      dsimp only
      have hkey : (entryOfKey knd x).key = .ref x.2.1 := rfl
      by_cases hh' : ((entryOfKey knd x).hash == hh) = true
      · rw [if_pos hh']
        refine wpAny_bind (wpAny_dictEpoch ho hd (wpAny_bind ?_))
        rw [hkey]
        refine SeqAt.EqAt.tuple_none hit hu prog w E _ (wpAny_bind (wpAny_dictEpoch ho hd ?_))
        show wpAny _ _ (if (ep != ep) = true then _ else _) _ E _
        rw [if_neg (by simp)]
        simp only [Bool.false_eq_true, if_false]
        refine wpAny_bind (wpAny_rule ?_)
        first | rw [if_neg (by simp)] | skip
        first
          | exact wpAny_pure ⟨rfl, rfl, fun j hj => hr j (List.mem_cons_of_mem _ hj)⟩
          | exact wpAny_bind (wpAny_pure (wpAny_pure ⟨rfl, rfl, fun j hj => hr j (List.mem_cons_of_mem _ hj)⟩))
      · rw [if_neg hh']
        exact wpAny_pure ⟨rfl, rfl, fun j hj => hr j (List.mem_cons_of_mem _ hj)⟩
    · rintro r s' ⟨rfl, rfl, _⟩
      exact wpAny_pure h
theorem get_none {d : Addr} {xs : List (K × Addr × Value)} {Q : Option Value → Shared → Prop} (hu : A.units < cLine) (at_ : AllTup knd) (hm : s.heap.DictOfH knd d xs) (h : ∀ tk, Q none { s with toks := tk }) : wpAny (model prog w) A (dictGet d .none) Q E s := by
  obtain ⟨o, es, ep, ho, _, hd, he, his, hn⟩ := hm
  unfold dictGet
  try with_reducible refine wpAny_holding ?_
  refine wpAny_bind (PySem.W.pyHash_slot (T := "NoneType") rfl PySem.F.slot_NoneType_hash PySem.F.entry_NoneType_hash (PySem.F.args_NoneType_hash_1 _) (beq_builtin_none _) (.inl rfl) (wpAny_bind (wpAny_pure (wpAny_bind (wpAny_mkInt (wpAny_pure ⟨_, _, rfl, wpAny_bind (find_none (xs := xs) hu at_ ho hd he his ?_)⟩))))))
  exact wpAny_pure (h _)
theorem in_none {d : Addr} {xs : List (K × Addr × Value)} {Q : Value → Shared → Prop} (hu : A.in1.units < cLine) (at_ : AllTup knd) (hd : (d == sysModules) = false) (hm : s.heap.DictOfH knd d xs) (h : ∀ tk, Q (.bool false) { s with toks := tk }) :
    wpAny (model prog w) A (compareOp .In .none (.ref d)) Q E s := by
  show wpAny _ _ (do return .bool (← contains (.ref d) .none)) Q E s
  refine wpAny_bind ?_
  unfold contains
  try with_reducible refine wpAny_holding ?_
  refine wpAny_bind (wpAny_specialOf hm.typeIs slot_dict_contains.lookup ?_)
  show wpAny _ _ (if (some (Value.builtin "dict.__contains__") == some Value.none) = true then _ else _) _ E s
  rw [if_neg (by rw [beq_builtin_none]; exact Bool.false_ne_true)]
  refine wpAny_bind (wpAny_callSpecialUnlessNone?_slot (name := Str.ofString "__contains__") hm.typeIs slot_dict_contains
    (wpAny_call_entry slot_dict_contains hm.typeIs entry_dict_contains ?_ (args_dict_contains _ _)))
  show wpAny _ _ (dictGet d .none >>= _) _ _ s
  refine wpAny_bind (get_none hu at_ hm fun tk => ?_)
  show wpAny _ _ (Builtin.Dict.pendingKey? d .none >>= _) _ _ _
  exact wpAny_bind (wpAny_pendingKey_other hd (wpAny_pure ⟨_, rfl, wpAny_truthy_bool (wpAny_pure (h tk))⟩))
theorem notIn_none {d : Addr} {xs : List (K × Addr × Value)} {Q : Value → Shared → Prop} (hu : A.in1.units < cLine) (at_ : AllTup knd) (hd : (d == sysModules) = false) (hm : s.heap.DictOfH knd d xs) (h : ∀ tk, Q (.bool true) { s with toks := tk }) :
    wpAny (model prog w) A (compareOp .NotIn .none (.ref d)) Q E s := by
  show wpAny _ _ (do return .bool (!(← contains (.ref d) .none))) Q E s
  refine wpAny_bind ?_
  unfold contains
  try with_reducible refine wpAny_holding ?_
  refine wpAny_bind (wpAny_specialOf hm.typeIs slot_dict_contains.lookup ?_)
  show wpAny _ _ (if (some (Value.builtin "dict.__contains__") == some Value.none) = true then _ else _) _ E s
  rw [if_neg (by rw [beq_builtin_none]; exact Bool.false_ne_true)]
  refine wpAny_bind (wpAny_callSpecialUnlessNone?_slot (name := Str.ofString "__contains__") hm.typeIs slot_dict_contains
    (wpAny_call_entry slot_dict_contains hm.typeIs entry_dict_contains ?_ (args_dict_contains _ _)))
  show wpAny _ _ (dictGet d .none >>= _) _ _ s
  refine wpAny_bind (get_none hu at_ hm fun tk => ?_)
  show wpAny _ _ (Builtin.Dict.pendingKey? d .none >>= _) _ _ _
  exact wpAny_bind (wpAny_pendingKey_other hd (wpAny_pure ⟨_, rfl, wpAny_truthy_bool (wpAny_pure (h tk))⟩))
end
theorem tuple_all {prog : Program} {w : World} {K : Type} [DecidableEq K] (knd : KeyKind prog w K) : AllTup (tupleKind knd) := fun {s k a} h => by
  obtain ⟨o, items, n, ho, hc, hd, _⟩ := h
  exact ⟨items, o, ho, hc, n, hd⟩
end PySem
namespace L2
open PySem PySem.Spec PyProof.Rows
/-- y not in d; y None or a row, d's keys rows -/
def NInT (H : Hp) (a : Addr) (y : V) (b : Bool) : Prop := ∃ kvs, H a = some (.dT kvs) ∧ ((y = .non ∧ b = true) ∨ ∃ q k, y = .ref q ∧ H q = some (.tup (k.map kV)) ∧ b = !(valV kvs k).isSome)
def tDNotInNT (ty td : TE) : TE := fun σ H Q => ty σ H fun y H1 => td σ H1 fun x H2 => ∃ a b, x = .ref a ∧ NInT H2 a y b ∧ Q (.bl b) H2
section
variable {X : Cx} {o i : Expr} {td ty : TE}
theorem pc_dnotinNT (hu : X.A.units + 1 < cLine) (hi : PE X i ty) (ho : PE X o td) : PC X .NotIn i o (tDNotInNT ty td) := by
  refine ⟨fun pins s σ H Q I h => ?_⟩
  refine thn (hi.run pins s σ H _ I h) fun iv s1 ⟨y, H1, I1, ry, q1⟩ => thn (ho.run pins s1 σ H1 _ I1 q1) fun u s2 ⟨x, H2, I2, rx, a, b, ex, ⟨kvs, g, q3⟩, q2⟩ => ?_
  subst ex
  obtain rfl : u = Value.ref a := rx
  rcases q3 with ⟨ey, eb⟩ | ⟨q, k, ey, eq, eb⟩
  · subst ey eb
    obtain rfl : iv = Value.none := ry
    obtain ⟨_, hs, xs, _, hm⟩ := dt_of I2.hok g
    exact notIn_none (by show X.A.units + 1 < cLine; exact hu) (tuple_all _) hs hm fun tk => ⟨.bl true, H2, I2.tok _, rfl, q2⟩
  · subst ey eb
    exact d_notIn hu I2 (DGet.t g eq) ry fun s3 I3 => ⟨.bl (!(valV kvs k).isSome), H2, I3, rfl, q2⟩
end
end L2
set_option Elab.async false
set_option linter.all false
set_option maxRecDepth 100000
set_option maxHeartbeats 2000000
namespace PySem
open Sem (wp)
open AutoSeq1 (wpAny_loadPart')
theorem meets_enumerate_newT (l : Addr) (items : Array Value) (n : Nat) (dct : Option Addr) (sl : Array (Option Value)) :
    Meets (Builtin.«enumerate.__new__» ⟨[.type "enumerate", .ref l], []⟩) (fun _ R s => s.heap.get? l = some { cls := .type "tuple", dict := dct, data := .seq items n, slots := sl } ∧
      R (.ok (.ret (.ref (s.heap.push { cls := .type "tuple_iterator", data := .fields #[.ref l, .int 0 0] }).objs.size)))
        { s with heap := (s.heap.push { cls := .type "tuple_iterator", data := .fields #[.ref l, .int 0 0] }).push { cls := .type "enumerate", data := .fields #[.none, .bool false, .ref s.heap.objs.size, rawInt 0, .none, .none] } }) :=
  .of_wp fun prog w A R s h => by
    obtain ⟨hp, g, d, tk, os⟩ := s; obtain ⟨hl, h⟩ := h
    have hsub := sub_enumerate
    have hL : Heap.IsTuple (Shared.heap ⟨hp, g, d, tk, os⟩) l items := ⟨_, hl, rfl, n, rfl⟩
    wp_walk using wpAny_loadPart' hl
    refine wpAny_stack_any fun st => wpAny_pure ?_
    split
    · rename_i c _ _ _ _ _
      cases (c == Value.type "enumerate")
      · wp_walk using wpAny_loadPart' hl, wpAny_pyIter_tuple hL
        exact ⟨_, rfl, h⟩
      · wp_walk using wpAny_loadPart' hl, wpAny_pyIter_tuple hL
        exact ⟨_, rfl, h⟩
    · wp_walk using wpAny_loadPart' hl, wpAny_pyIter_tuple hL
      exact ⟨_, rfl, h⟩
section
variable {prog : Program} {w : World} {A : Around} {E : Value → Shared → Prop} {s : Shared}
theorem call_enumerate_tuple {l : Addr} {items : Array Value} {Q : Value → Shared → Prop} (hL : s.heap.IsTuple l items)
    (h : ∀ h', IsEnum h' (s.heap.objs.size + 1) s.heap.objs.size 0 .none → h'.IsTupleIter s.heap.objs.size l 0 → h'.objs.size = s.heap.objs.size + 2 →
      (∀ b o, s.heap.get? b = some o → h'.get? b = some o) → Q (.ref (s.heap.objs.size + 1)) { s with heap := h' }) :
    wpAny (model prog w) A (call (.type "enumerate") [.ref l]) Q E s := by
  obtain ⟨⟨c, dct, dt, sl⟩, hl, hc, n, hd⟩ := hL
  replace hc : c = .type "tuple" := hc
  replace hd : dt = .seq items n := hd
  subst hc hd
  refine callType_new F.called_enumerate (by decide) (F.typeCall_enumerate_1 _) (F.newCall_enumerate_1 _) (fun obj => F.args_object_init_2 obj _) F.entry_enumerate_new
    (meets_enumerate_newT l items n dct sl) ⟨hl, ?_⟩
  have hz : (s.heap.push { cls := .type "tuple_iterator", data := .fields #[.ref l, .int 0 0] }).objs.size = s.heap.objs.size + 1 := Heap.size_push ..
  show _ ∧ _
  rw [hz]
  have he : IsEnum ((s.heap.push { cls := .type "tuple_iterator", data := .fields #[.ref l, .int 0 0] }).push
      { cls := .type "enumerate", data := .fields #[.none, .bool false, .ref s.heap.objs.size, rawInt 0, .none, .none] }) (s.heap.objs.size + 1) s.heap.objs.size 0 .none := by
    have := Heap.get?_push_size (s.heap.push { cls := .type "tuple_iterator", data := .fields #[.ref l, .int 0 0] })
      (o := { cls := .type "enumerate", data := .fields #[.none, .bool false, .ref s.heap.objs.size, rawInt 0, .none, .none] }) rfl
    rw [hz] at this; exact this
  refine ⟨⟨_, he, rfl⟩, h _ he ⟨_, Heap.get?_push_of_some _ (Heap.get?_push_size _ rfl), rfl, rfl⟩ (by rw [Heap.size_push, hz]) fun b o x => Heap.get?_push_of_some _ (Heap.get?_push_of_some _ x)⟩
end
end PySem
namespace L2
open PySem PySem.Spec PyProof.Rows
/-- the tuple at a, each item in a new pair -/
def IteT (K : PySem.W.Frag) (a : Addr) : It :=
  ⟨fun i H => ∃ (xs : List V) (x : V), SqT K H a xs ∧ xs[i]? = some x, fun i H v H' => ∃ T x, v = .ref T ∧ H T = none ∧ H' = upd H T (.tup [.int (i : Nat), x]) ∧ ∀ xs, SqT K H a xs → xs[i]? = some x, fun i H => ∃ xs : List V, SqT K H a xs ∧ xs.length = i⟩
theorem turn_enumT {P : Program} {w : World} {K : PySem.W.Frag} {elts : List Expr} {kk : Nat} {tpos : Pos} (a e it : Addr) :
    Turn P w K (.Tuple elts kk tpos) (IteT K a) [e, it] e (fun i h => (∃ old, IsEnum h e it ((i : Nat) : Int) old) ∧ h.IsTupleIter it a i ∧ e ≠ it ∧ a ≠ it ∧ a ≠ e) where
  mem := by simp
  obj := fun i h st b hb => by
    obtain ⟨⟨old, he⟩, ⟨o, ho, hc, hd⟩, _⟩ := st
    have e' : b = e ∨ b = it := by simpa using hb
    rcases e' with z | z
    · rw [z]; exact ⟨_, he, fun v q => nomatch q⟩
    · rw [z]; exact ⟨o, ho, fun v q => by rw [hd] at q; cases q⟩
  keep := fun i h h' st k => let ⟨⟨old, he⟩, ⟨o, ho, hr⟩, hne⟩ := st; ⟨⟨old, k e (by simp) _ he⟩, ⟨o, k it (by simp) _ ho, hr⟩, hne⟩
  item := by
    intro X hP hw hK hc i pins s σ H E I hf st hg
    subst hP hw hK
    obtain ⟨⟨old, he⟩, hit, hne, hai, hae⟩ := st
    obtain ⟨xs, x, hq, hx⟩ := hg
    obtain ⟨its, rv, p, hz⟩ := I.tuple hq
    obtain ⟨u, hu, ru⟩ := rv.get hx
    have hel : e < s.heap.objs.size := Heap.lt_size he
    have hil : it < s.heap.objs.size := by obtain ⟨_, q, _⟩ := hit; exact Heap.lt_size q
    have hu' : its.toArray[i]? = some u := by simpa using hu
    have hlt : i < its.toArray.size := by
      rcases Nat.lt_or_ge i its.toArray.size with h | h
      · exact h
      · rw [Array.getElem?_eq_none h] at hu'; cases hu'
    refine wpAny_pyNext_enum_itemD (Draws.tuple (A := X.A.in1) (I.ok.hd hc) it a hai its.toArray) he ⟨hit, p⟩ hlt hne (by simp [hne, Ne.symm hae]) fun v h' tk hv ho hst hT hsz hk => ?_
    obtain rfl : v = u := by
      rw [hu'] at hv
      exact (Option.some.inj hv).symm
    refine ⟨_, rfl, wpAny_letOwnedTupleGo_enum (s := { s with heap := h', toks := tk + 1 }) ho fun h'' he' sb => ?_⟩
    have hT2 : h''.get? s.heap.objs.size = some { cls := .type "tuple", data := .seq #[.int i tk, v] } := (sb.2 _ (Nat.ne_of_gt hel)).trans hT
    have new : ObjOk X.prog X.w (upd H s.heap.objs.size (.tup [.int (i : Nat), x])) h'' s.heap.objs.size (.tup [.int (i : Nat), x]) :=
      ⟨by show 2 ≤ sizeLine; decide, [.int i tk, v], .cons ⟨_, rfl⟩ (.cons ru .nil), ⟨_, hT2, rfl, _, rfl⟩⟩
    have I1 : Inv X pins σ (upd H s.heap.objs.size (.tup [.int (i : Nat), x])) { s with heap := h'', toks := tk + 1 } :=
      I.turnedNew (ch := [e, it]) (fun b ob hb q => (sb.2 b (fun z => hb (by simp [z]))).trans (hk b ob (fun z => hb (by simp [z])) (fun z => hb (by simp [z])) q)) hf (Nat.le_refl _) new
    refine ⟨.ref s.heap.objs.size, _, I1, rfl, ⟨_, x, rfl, I.hok.fresh (Nat.le_refl _), rfl, fun ys hy => by rw [I.tuple_inj hy hq]; exact hx⟩, ⟨⟨v, ?_⟩, ?_, hne, hai, hae⟩, fun b hb => ?_⟩
    · have e1 : ((i + 1 : Nat) : Int) = (i : Int) + 1 := by omega
      rw [e1]; exact he'
    · obtain ⟨o, ho2, hr⟩ := hst.1
      exact ⟨o, (sb.2 it (Ne.symm hne)).trans ho2, hr⟩
    · have hb' : b < s.heap.objs.size := by
        have e' : b = e ∨ b = it := by simpa using hb
        rcases e' with z | z
        · rw [z]; exact hel
        · rw [z]; exact hil
      rw [upd_ne (Nat.ne_of_lt hb')]
      exact (hf b hb).1
  done := by
    intro X hP hw hK hc i pins s σ H E I hf st hg
    subst hP hw hK
    obtain ⟨⟨old, he⟩, hit, hne, hai, hae⟩ := st
    obtain ⟨xs, hq, hx⟩ := hg
    obtain ⟨its, rv, p, hz⟩ := I.tuple hq
    obtain ⟨f0, f1, f2, f3, f4, f5⟩ := hf it (by simp)
    have hl := rv.length
    have hi : i = its.toArray.size := by rw [List.size_toArray]; omega
    subst hi
    exact wpAny_pyNext_enum_endD (Draws.tuple (A := X.A.in1) (I.ok.hd hc) it a hai its.toArray) he ⟨hit, p⟩ fun h' eb => ⟨rfl, I.turned (t' := s.toks) (fun b o hb q => eb b o hb q) f0 f1 f3 f4 f5⟩
  self := fun A i s Q E st h => let ⟨⟨_, he⟩, _⟩ := st; wpAny_pyIter_enum he h
def iEnumT (K : PySem.W.Frag) (ta : TA) : TI := fun σ H R => ta σ H fun vs H1 => ∃ a xs, vs = [.ref a] ∧ SqT K H1 a xs ∧ R (IteT K a) H1
theorem pi_enumT {X : Cx} {e : Expr} {ta : TA} {p pos tpos : Pos} {elts : List Expr} {kk : Nat} (hg : Gl X "enumerate") (hm : X.mg "enumerate" = none) (ha : PA X [e] ta) (hs : starEach [e] X.env = [(false, eval e X.env)] := by rfl) :
    PI X (.Tuple elts kk tpos) (.Call (.Name "enumerate" p) [e] [] pos) (iEnumT X.K ta) := by
  refine ⟨fun pins s σ H R I h => ?_⟩
  refine Call_ (ld_blt I hg hm boot_enumerate (PyProof.Rows.callWith_type1 (thn (ha.run pos pins s σ H _ I h) fun us s1 ⟨vs, H1, I1, r1, q1⟩ => ?_) hs rfl))
  obtain ⟨a, xs, ex, hq, q⟩ := q1
  subst ex
  cases r1 with
  | cons r rr =>
    cases rr
    cases r
    obtain ⟨its, rv, p', hz⟩ := I1.tuple hq
    have hal : a < s1.heap.objs.size := by obtain ⟨_, q, _⟩ := p'; exact Heap.lt_size q
    refine call_enumerate_tuple p' fun h' he hit hsz hk => wpAny_pyIter_enum he ?_
    have I2 : Inv X pins σ H1 { s1 with heap := h' } := I1.kept (t' := s1.toks) hk
    refine ⟨s1.heap.objs.size + 1, [s1.heap.objs.size + 1, s1.heap.objs.size], _, _, H1, rfl, I2, turn_enumT a (s1.heap.objs.size + 1) s1.heap.objs.size, ⟨⟨.none, he⟩, hit, Nat.succ_ne_self _, Nat.ne_of_lt hal, Nat.ne_of_lt (Nat.lt_succ_of_lt hal)⟩, fun b hb => ?_, q⟩
    have e' : b = s1.heap.objs.size + 1 ∨ b = s1.heap.objs.size := by simpa using hb
    have hle : s1.heap.objs.size ≤ b := by
      rcases e' with z | z
      · rw [z]; exact Nat.le_add_right _ _
      · rw [z]; exact Nat.le_refl _
    exact I1.fpOk hle (I1.hok.fresh hle)
/-- over a list or a tuple, whichever it is -/
theorem pi_or {X : Cx} {tg e : Expr} {i1 i2 : TI} (h1 : PI X tg e i1) (h2 : PI X tg e i2) : PI X tg e (fun σ H R => i1 σ H R ∨ i2 σ H R) := by
  refine ⟨fun pins s σ H R I h => ?_⟩
  rcases h with h | h
  · exact h1.run pins s σ H R I h
  · exact h2.run pins s σ H R I h
end L2
set_option Elab.async false
set_option linter.all false
set_option maxRecDepth 100000
set_option maxHeartbeats 2000000
/-! promises of defs that are called where no repr is under way; the end of a law with tables of code objects -/
namespace Y
open PySem PySem.Spec PyProof.Rows L2 LamX
/-- FnOk where no repr is under way -/
structure FnG (P : Program) (w : World) (K : PySem.W.Frag) (mg : Str → Option Value) (base : Heap) (CX : CXT) (k : Nat) (f : Addr) (fd : FuncData) (ps : List Str) (sp : Sp) : Prop where
  len : ∀ vs H Q E, sp vs H Q E → vs.length = ps.length
  go : ∀ (A : Around) (outer : List Env) (s : Shared) (H : Hp) (args : Args) (us : List Value) (vs : List V) (Q : VK) (E : XK), A.guards = some [] → Room k A → Env0 P w K mg base A outer s H → BindsTo s fd args (ps.zip us) →
    Vals vs us → sp vs H Q E → codeAny (model P w) A (.call (.ref f) args) (CR CX outer P w H s Q E) s
section
variable {P : Program} {w : World} {K : PySem.W.Frag} {mg : Str → Option Value} {base : Heap} {CX : CXT}
theorem FnG.of {k : Nat} {f : Addr} {fd : FuncData} {ps : List Str} {sp : Sp} (F : FnOk P w K mg base CX k f fd ps sp) : FnG P w K mg base CX k f fd ps sp := ⟨F.len, fun A outer s H args us vs Q E _ => F.run A outer s H args us vs Q E⟩
/-- a def by its body -/
theorem okG {x qual : Str} {st : Stmt} {f : Addr} {fd : FuncData} {N ps : List Str} {k : Nat} {sp : Sp} (F : Fun K x qual st f fd) (S : FnScope N ps (defScope st)) (len : ∀ vs H Q E, sp vs H Q E → vs.length = ps.length)
    (body : ∀ (cdv : Value) (A : Around) (outer : List Env) (s : Shared) (H : Hp) (vs : List V) (Q : VK) (E : XK), A.guards = some [] → Room k (A.deeper (envOfC qual (defScope st) s.heap.objs.size f cdv)) → sp vs H Q E →
      ∃ t, PSs (cxOf CX0 P w K mg base N qual (defScope st) f cdv A outer s H E).nox (defBody st) t ∧ t { nx := fun _ H' => Q .non H', rt := Q } (L2.start N vs) H) : FnG P w K mg base CX0 (k + 1) f fd ps sp := by
  obtain ⟨oc, od, kV, doc, pm, an, cdv, ct, osl, rfl, lk, hcd⟩ := F.ex
  refine ⟨len, fun A outer s H args us vs Q E hg hr e0 hb r q => run_ofS lk hcd S hr e0 hb r (len _ _ _ _ q) fun hr' => ?_⟩
  obtain ⟨t, h1, h2⟩ := body cdv A outer s H vs Q E hg hr' q
  exact ⟨t, h1.nox, h2⟩
end
section
variable {X : Cx} {CX : CXT} {k : Nat} {f : Addr} {fd : FuncData} {ps : List Str} {sp : Sp} {E : XK} {x : Str} {p pos : Pos} {e : Expr} {es : List Expr} {t : TA}
theorem pe_callG (hG : X.A.guards = some []) (F : FnG X.prog X.w X.K X.mg X.base CX k f fd ps sp) (hr : Room k X.A) (gl : Gl X x) (at_ : X.mg x = some (.ref f)) (kp : PySem.W.keepIn X.K (.ref f) = true) (bd : Binds X.K fd ps []) (hx : Passes CX X E) (ha : PA X (e :: es) t)
    (db : (x == ("__debug__" : Str)) = false := by decide) (st : starEach (e :: es) X.env = (false, eval e X.env) :: starEach es X.env := by rfl) (pl : (backTo pos (starEach (e :: es) X.env)).tail.any (·.1) = false := by rfl) :
    PE X (.Call (.Name x p) (e :: es) [] pos) (tCall sp [] E t) := by
  refine ⟨fun pins s σ H Q I h => wpAny_Call_Name_kw (ld_glob I gl at_ (PySem.W.callWith_K (h₀ := X.base) I.ok.mod.kin kp (thn (ha.run pos pins s σ H _ I h) fun us s1 ⟨vs, H1, I1, r, q⟩ => ⟨I1.kIn, ?_⟩) st ?_) db)⟩
  · have q' : sp vs H1 Q E := (List.append_nil vs) ▸ (show sp (vs ++ []) H1 Q E from q)
    have hl : (us ++ ([] : List Value)).length = ps.length := by rw [List.append_nil, ← r.length]; exact F.len _ _ _ _ q'
    have bt := bd s1 us I1.kIn hl
    rw [List.append_nil] at bt
    refine wpAny_call (codeAny_mono (F.go X.A X.stack s1 H1 ⟨us, []⟩ us vs Q E hG hr I1.env0 bt r q') fun res s' hq => ?_)
    match res, hq with
    | .error e, hq => exact hx pins σ H1 s1 e s' I1 hq
    | .ok (.ret u), hq => exact I1.after hq
    | .ok .next, hq => exact hq.elim
    | .ok .brk, hq => exact hq.elim
    | .ok .cont, hq => exact hq.elim
  · rw [st] at pl
    exact pl
end
end Y
set_option Elab.async false
set_option linter.all false
set_option maxRecDepth 100000
set_option maxHeartbeats 4000000
namespace Y
open PySem PySem.Spec PyProof.Rows L2 LamX
/-- a def by its body, its code object known -/
theorem okGc {P : Program} {w : World} {K : PySem.W.Frag} {mg : Str → Option Value} {base : Heap} {x qual : Str} {st : Stmt} {f c : Addr} {fd : FuncData} {N ps : List Str} {k : Nat} {sp : Sp} (F : Fun K x qual st f fd) (hc : fd.code = .ref c) (S : FnScope N ps (defScope st)) (len : ∀ vs H Q E, sp vs H Q E → vs.length = ps.length)
    (body : ∀ (A : Around) (outer : List Env) (s : Shared) (H : Hp) (vs : List V) (Q : VK) (E : XK), A.guards = some [] → Room k (A.deeper (envOfC qual (defScope st) s.heap.objs.size f (.ref c))) → sp vs H Q E →
      ∃ t, PSs (cxOf CX0 P w K mg base N qual (defScope st) f (.ref c) A outer s H E).nox (defBody st) t ∧ t { nx := fun _ H' => Q .non H', rt := Q } (L2.start N vs) H) : FnG P w K mg base CX0 (k + 1) f fd ps sp := by
  obtain ⟨oc, od, kV, doc, pm, an, cdv, ct, osl, rfl, lk, hcd⟩ := F.ex
  have hc : cdv = .ref c := hc
  subst hc
  refine ⟨len, fun A outer s H args us vs Q E hg hr e0 hb r q => run_ofS lk hcd S hr e0 hb r (len _ _ _ _ q) fun hr' => ?_⟩
  obtain ⟨t, h1, h2⟩ := body A outer s H vs Q E hg hr' q
  exact ⟨t, h1.nox, h2⟩
end Y
set_option Elab.async false
set_option linter.all false
set_option maxRecDepth 100000
set_option maxHeartbeats 2000000
/-! the end of a law whose promise is an FnG: tables of code objects, the script -/
namespace Y
open PySem PySem.Spec PyProof.Rows L2 LamX
/-- what is tracked when the law begins: the tables, empty; the script, if it is no object of the written part -/
def hp0 (ts : List Addr) (sc : Addr → Option HO) : Hp := fun b => if b ∈ ts then some (.tbl #[]) else sc b
theorem hp0_tab {ts : List Addr} {sc : Addr → Option HO} {b : Addr} (h : b ∈ ts) : hp0 ts sc b = some (.tbl #[]) := if_pos h
theorem hp0_off {ts : List Addr} {sc : Addr → Option HO} {b : Addr} (h : b ∉ ts) : hp0 ts sc b = sc b := if_neg h
section
variable {P : Program} {w : World} {K : PySem.W.Frag} {mg mb : Str → Option Value} {k : Nat} {fa a : Addr} {cs : List (Addr × Addr)} {fd : FuncData} {x : Str} {sp : Sp} {s₁ : Shared} {vs : List Value} {ns : List Int}
/-- the tables' addresses -/
abbrev tabs (cs : List (Addr × Addr)) : List Addr := cs.map Prod.snd
theorem mem_tabs {p : Addr × Addr} (h : p ∈ cs) : p.2 ∈ tabs cs := List.mem_map.mpr ⟨p, h, rfl⟩
/-- what the heap tells that H does not track stands in the base -/
theorem base_ns {H : Hp} {b : Addr} {m : Str → Option Value} (nod : ∀ b o es ep, s₁.heap.get? b = some o → o.data = .dict es ep → H b = none) (h : s₁.heap.Ns b m) : (hidT s₁.heap H).Ns b m := by
  obtain ⟨o, es, ep, e, d, r⟩ := h
  exact ⟨o, es, ep, hidT_get e (nod b o es ep e d), d, r⟩
theorem law_runG (sc : Addr → Option HO)
    (hsc : ∀ b, sc b = none ∨ (b = a ∧ K.lookup a = none ∧ sc b = some (.frz { cls := .type "list", data := .seq vs.toArray } (.lst (ns.map V.int))))) (hS : SqL K (hp0 (tabs cs) sc) a (ns.map V.int))
    (KX : K.In s₁.heap) (hns : s₁.heap.Ns mainGlobals mg) (hb : s₁.heap.Ns builtinsNs mb) (hbb : ∀ x : Str, x ≠ "__name__" → mb x = bootBuiltins x) (hlim : s₁.heap.NoLimit) (hg : s₁.gens = #[])
    (hT : ∀ p ∈ cs, s₁.heap.get? p.2 = some { cls := .none, data := .fields #[] }) (nT : ∀ p ∈ cs, K.lookup p.2 = none) (C : ∀ p ∈ cs, PySem.W.CodeHd s₁.heap p.1 p.2)
    (hbm : ∃ (bm : Addr) (ob : Obj), mg "__builtins__" = some (.ref bm) ∧ bm ≠ builtinsNs ∧ s₁.heap.get? bm = some ob ∧ ob.cls = .type "module" ∧ ob.dict = some builtinsNs ∧ ob.data = .plain)
    (ha : s₁.heap.get? a = some { cls := .type "list", data := .seq vs.toArray }) (hv : Vals (ns.map V.int) vs) (hl : ns.length ≤ sizeLine) (hr : Room k callerA)
    (F : ∀ base : Heap, K.In base → base.Ns mainGlobals mg → (∀ p ∈ cs, TabB base mg p.1 p.2) → FnG P w K mg base CX0 k fa fd [x] sp) (hbind : ∀ (s : Shared) (u : Value), BindsTo s fd ⟨[u], []⟩ [(x, u)])
    (hsp : ∀ H : Hp, (∀ p ∈ cs, H p.2 = some (.tbl #[])) → SqL K H a (ns.map V.int) → sp [.ref a] H (fun v _ => v = .bl true) fun _ _ _ => False) :
    codeAny (model P w) callerA (.call (.ref fa) ⟨[.ref a], []⟩) (fun r s' => r = .ok (.ret (.bool true)) ∧ OldK s₁.heap s'.heap ∧ s'.os = s₁.os ∧ AllBare s'.gens) s₁ := by
  have tabAt : ∀ b ∈ tabs cs, s₁.heap.get? b = some { cls := .none, data := .fields #[] } := fun b hb => by
    obtain ⟨p, hp, e⟩ := List.mem_map.mp hb
    rw [← e]; exact hT p hp
  -- where something is tracked, it is a table or the script
  have two : ∀ b u, hp0 (tabs cs) sc b = some u → (b ∈ tabs cs ∧ u = .tbl #[]) ∨ (b ∉ tabs cs ∧ b = a ∧ K.lookup a = none ∧ u = .frz { cls := .type "list", data := .seq vs.toArray } (.lst (ns.map V.int))) := fun b u e => by
    by_cases h : b ∈ tabs cs
    · rw [hp0_tab h] at e
      exact .inl ⟨h, (Option.some.inj e).symm⟩
    · rw [hp0_off h] at e
      rcases hsc b with z | ⟨z1, z2, z3⟩
      · rw [z] at e; cases e
      · rw [z3] at e
        exact .inr ⟨h, z1, z2, (Option.some.inj e).symm⟩
  have free : ∀ b o, s₁.heap.get? b = some o → (∀ us n, o.data ≠ .seq us n) → o.data ≠ .fields #[] → hp0 (tabs cs) sc b = none := fun b o e h1 h2 => by
    cases q : hp0 (tabs cs) sc b with
    | none => rfl
    | some u =>
      rcases two b u q with ⟨z, _⟩ | ⟨_, z, _⟩
      · rw [tabAt b z] at e; cases e; exact (h2 rfl).elim
      · rw [z, ha] at e; cases e; exact (h1 _ _ rfl).elim
  have nod : ∀ b o es ep, s₁.heap.get? b = some o → o.data = .dict es ep → hp0 (tabs cs) sc b = none := fun b o es ep e d => free b o e (fun us n z => by rw [d] at z; cases z) fun z => by rw [d] at z; cases z
  have okH : HOk P w (hp0 (tabs cs) sc) s₁.heap := fun b u e => by
    rcases two b u e with ⟨z, rfl⟩ | ⟨_, rfl, _, rfl⟩
    · exact tabAt b z
    · exact ⟨ha, by rw [List.length_map]; exact hl, vs, _, hv, ha⟩
  have inB : K.In (hidT s₁.heap (hp0 (tabs cs) sc)) := fun b o e => hidT_get (KX b o e) (by
    cases q : hp0 (tabs cs) sc b with
    | none => rfl
    | some u =>
      rcases two b u q with ⟨z, _⟩ | ⟨_, z1, z2, _⟩
      · obtain ⟨p, hp, ep⟩ := List.mem_map.mp z
        have n0 := nT p hp
        rw [show p.2 = b from ep, e] at n0; cases n0
      · rw [z1, z2] at e; cases e)
  have md : L2.Mod K mg (hidT s₁.heap (hp0 (tabs cs) sc)) := ⟨inB, base_ns nod hns, ⟨mb, base_ns nod hb, hbb⟩, hlim.elim fun mc z => ⟨mc, base_ns nod z.1, z.2⟩⟩
  have tb : ∀ p ∈ cs, TabB (hidT s₁.heap (hp0 (tabs cs) sc)) mg p.1 p.2 := fun p hp => by
    have tp := hT p hp
    constructor
    · obtain ⟨o, us, file, tf, flags, tg, inF, text, tt, e1, r1, r2, r3, rr⟩ := C p hp
      refine ⟨o, us, file, tf, flags, tg, inF, text, tt, hidT_get e1 (free _ _ e1 (fun us n z => by rw [r2] at z; cases z) fun z => ?_), r1, r2, r3, rr⟩
      rw [r2] at z; cases z; simp at r3
    · obtain ⟨bm, ob, b1, b2, b3, b4, b5, b6⟩ := hbm
      refine ⟨bm, ob, b1, b2, fun q => ?_, fun q => ?_, hidT_get b3 (free _ _ b3 (fun us n z => by rw [b6] at z; cases z) fun z => by rw [b6] at z; cases z), b4, b5, b6⟩
      · obtain ⟨o, es, ep, e, hd, _⟩ := hns
        rw [q, e] at b3; cases b3; rw [hd] at b6; cases b6
      · rw [q, tp] at b3; cases b3; cases b6
    · intro z
      obtain ⟨o, es, ep, e, hd, _⟩ := hns
      rw [z, tp] at e; cases e; cases hd
  have e0 : Env0 P w K mg (hidT s₁.heap (hp0 (tabs cs) sc)) callerA [] s₁ (hp0 (tabs cs) sc) :=
    { frames := rfl, mod := md, bs := fun b o e => of_hidT e, bsz := Nat.le_of_eq (hidT_size _ _), funs := True.intro, frf := (fun b z => by cases z), hok := okH, bare := AllBare.of_eq hg }
  refine codeAny_mono ((F _ inB (base_ns nod hns) tb).go callerA [] s₁ _ ⟨[.ref a], []⟩ [.ref a] [.ref a] _ _ rfl hr e0 (hbind s₁ (.ref a)) (.cons rfl .nil) (hsp _ (fun p hp => hp0_tab (mem_tabs hp)) hS)) fun r s' h => ?_
  match r, h with
  | .error e, h => exact (show False from h).elim
  | .ok .next, h => exact (show False from h).elim
  | .ok .brk, h => exact (show False from h).elim
  | .ok .cont, h => exact (show False from h).elim
  | .ok (.ret u), h =>
    obtain ⟨v, H', os, bare, un, ok', rv, q⟩ := h
    obtain rfl : v = .bl true := q
    obtain rfl : u = Value.bool true := rv
    have kept : ∀ b o, b ∉ tabs cs → s₁.heap.get? b = some o → s'.heap.get? b = some o := fun b o nb e => by
      cases q : hp0 (tabs cs) sc b with
      | none => exact un.keep b o e q (fun z => by cases z) (fun z => by cases z)
      | some u =>
        rcases two b u q with ⟨z, _⟩ | ⟨_, _, _, rfl⟩
        · exact absurd z nb
        · obtain ⟨e1, _⟩ := okH b _ q
          obtain ⟨e2, _⟩ := ok' b _ (un.frzs b _ _ q)
          rw [e] at e1; cases e1; exact e2
    have more : ∀ b ∈ tabs cs, ∃ ps : Array Value, s'.heap.get? b = some { cls := .none, data := .fields ps } := fun b hb => by
      obtain ⟨m, z⟩ := un.tbls b #[] (hp0_tab hb)
      exact ⟨_, ok' b _ z⟩
    refine ⟨rfl, ⟨fun b o e => ?_, fun b o e => ?_⟩, os, bare⟩
    · by_cases h : b ∈ tabs cs
      · obtain ⟨ps, hm⟩ := more b h
        obtain ⟨p, hp, rfl⟩ := List.mem_map.mp h
        obtain rfl := Option.some.inj ((hT p hp).symm.trans e)
        exact .inr (.inl ⟨((C p hp).tab (hT p hp)).isCodeTable, rfl, #[], ps, rfl, by rw [Array.empty_append]; exact hm⟩)
      · exact .inl (kept b o h e)
    · by_cases h : b ∈ tabs cs
      · obtain ⟨ps, hm⟩ := more b h
        exact ⟨_, hm⟩
      · exact ⟨o, kept b o h e⟩
end
/-- what is known of the law's promise at the head's heap h -/
def LawG (l : PySem.W.OpenLaw) (w : World) (K : PySem.W.Frag) (k n : Nat) (x : Str) (mg : Str → Option Value) (fa : Addr) (h : Heap) : Prop :=
  ∃ (fd : FuncData) (cs : List (Addr × Addr)) (sp : Sp), ((∀ p ∈ cs, h.get? p.2 = some { cls := .none, data := .fields #[] }) ∧ (∀ p ∈ cs, K.lookup p.2 = none) ∧ ∀ p ∈ cs, PySem.W.CodeHd h p.1 p.2) ∧ (∀ (s : Shared) (u : Value), BindsTo s fd ⟨[u], []⟩ [(x, u)]) ∧
    (∀ (H : Hp) (a : Addr) (ns : List Int), ns.length ≤ n → (∀ p ∈ cs, H p.2 = some (.tbl #[])) → SqL K H a (ns.map V.int) → sp [.ref a] H (fun v _ => v = .bl true) fun _ _ _ => False) ∧
    ∀ base : Heap, K.In base → base.Ns mainGlobals mg → (∀ p ∈ cs, TabB base mg p.1 p.2) → FnG l.prog w K mg base CX0 k fa fd [x] sp
theorem walk_G {l : PySem.W.OpenLaw} {n k : Nat} {q : Program} {loose : List Str} {XP : (Str → Option Value) → Heap → Prop} {YP : World → Heap → Prop} {d : DefRec} {K : Params → PySem.W.Frag} {x : Str}
    (hn : l.most = some n) (hn2 : n ≤ sizeLine) (hdf : d.params.defaults = []) (hr : Room k callerA) (hY : ∀ (w : World) (h : Heap), YP w h → (K w.params).In h)
    (F : ∀ (w : World) (mg : Str → Option Value) (fa : Addr) (h : Heap), YP w h → (K w.params).In h → h.Ns mainGlobals mg → mg d.name = some (.ref fa) → LawG l w (K w.params) k n x mg fa h) :
    PySem.W.WalkO q loose XP YP l.row.toRowW d [] (fun f vs => PySem.call f vs) := by
  refine Att.attach_callB hn hdf fun w s₀ s₁ mg mb fa o pm cd doc a vs ns G Y ho hd hcd hmg hobj hints hlen hbits hg => ?_
  have KX := hY w _ Y
  obtain ⟨fd, cs, sp, ⟨t1, t2, t3⟩, hb, hsp, hF⟩ := F w mg fa _ Y KX G.T.g hmg
  have hv := vals_ints hints
  have l1 : ns.length ≤ sizeLine := Nat.le_trans hlen hn2
  have off : a ∉ tabs cs := fun z => by
    obtain ⟨p, hp, e⟩ := List.mem_map.mp z
    have e2 := t1 p hp
    rw [show p.2 = a from e, hobj] at e2
    cases e2
  cases hk : (K w.params).lookup a with
  | some ob =>
    have e := KX a ob hk
    rw [hobj] at e
    cases e
    exact law_runG (fun _ => none) (fun _ => .inl rfl) (.inr ⟨_, vs.toArray, _, hk, rfl, rfl, rfl, by rw [List.size_toArray, hints.length]; exact l1, by simpa using hv⟩) KX G.T.g G.T.b G.T.builtins G.T.nolimit hg t1 t2 t3 G.T.bmain hobj hv l1 hr hF hb fun H hH hS => hsp H a ns hlen hH hS
  | none =>
    refine law_runG (fun b => if b = a then some (.frz { cls := .type "list", data := .seq vs.toArray } (.lst (ns.map V.int))) else none) (fun b => ?_) (.inl (.inr ⟨_, by rw [hp0_off off]; exact if_pos rfl⟩)) KX G.T.g G.T.b G.T.builtins G.T.nolimit hg t1 t2 t3 G.T.bmain hobj hv l1 hr hF hb fun H hH hS => hsp H a ns hlen hH hS
    by_cases h : b = a
    · exact .inr ⟨h, hk, if_pos h⟩
    · exact .inl (if_neg h)
end Y
set_option Elab.async false
set_option linter.all false
set_option maxRecDepth 100000
set_option maxHeartbeats 2000000
namespace L2
open PySem PySem.Spec PyProof.Rows
/-! ### is the tuple in the set? -/
abbrev prb (m : Nat) (h : Int) (c : Nat) : SetTable.Probe := nth m (runAt m (SetTable.bits h % (m + 1)) (SetTable.bits h)) c
theorem prb_add (m : Nat) (h : Int) (c q : Nat) : nth m (prb m h c) q = prb m h (c + q) := (nth_add m c _ q).symm
theorem prb_j (m : Nat) (h : Int) (c q : Nat) : (nth m (prb m h c) q).j = way m h (c + q) := congrArg SetTable.Probe.j (prb_add m h c q)
theorem nth_dummy (m : Nat) : ∀ (n : Nat) (p : SetTable.Probe), p.dummy = none → (nth m p n).dummy = none
  | 0, _, h => h
  | n + 1, p, h => nth_dummy m n (adv m p) (by unfold adv; split <;> exact h)
section
variable {P : Program} {w : World} {A : Around} {E : Value → Shared → Prop} {s : Shared}
variable {a : Addr} {L : List (Addr × List Int)} {es : Array (Int × Value)} {ep : Nat} {t : SetTable}
theorem find_from (R : SetTR P w s.heap a L es ep t) {x : Addr} {k : List Int} (hx : IsT P w s.heap k x) (hu : A.units < cLine) {N : Nat} (hN : N < 10 * SetTable.turns t.mask)
    (free : way t.mask (thash P w k) N ∉ t.place.toList) (used : ∀ c, c < N → way t.mask (thash P w k) c ∈ t.place.toList) {Q : SetFound → Shared → Prop}
    (yes : k ∈ L.map (·.2) → ∀ i, Q (.there (some i)) s) (no : k ∉ L.map (·.2) → ∀ j d, Q (.free j d) s) :
    ∀ (f c : Nat) (st : Option SetTable.Probe), st.getD (t.probeStart (thash P w k)) = prb t.mask (thash P w k) c → c ≤ N → N - c < f →
      (∀ (i : Nat) p, L[i]? = some p → p.2 = k → ∃ c', c ≤ c' ∧ c' < N ∧ t.place.toList[i]? = some (way t.mask (thash P w k) c')) →
      wpAny (model P w) A (setSearchFrom a (.ref x) (thash P w k) false f st) Q E s
  | 0, _, _, _, _, hf, _ => absurd hf (Nat.not_lt_zero _)
  | f + 1, c, st, hst, hc, hf, hre => by
    obtain ⟨ob, hob, hexact, hdata⟩ := R.ob
    rw [setSearchFrom_succ]
    refine wpAny_bind (wpAny_setState_of hob hdata R.fits ?_)
    dsimp only
    refine wp_if_neg R.gw ?_
    try refine wpAny_bind (wpAny_pure ?_)
    have at_c : c + (N - c) = N := by omega
    have hashOf : ∀ (i : Nat) p, L[i]? = some p → (fun i => (es[i]?.map (·.1)).getD 0) i = thash P w p.2 := fun i p hp => by
      show (es[i]?.map (·.1)).getD 0 = _
      rw [R.entry hp] <;> rfl
    have spec := go_spec t R.tab.ris R.tab.dm (fun i => (es[i]?.map (·.1)).getD 0) (thash P w k) (10 * SetTable.turns t.mask) (N - c) (prb t.mask (thash P w k) c) (nth_dummy _ _ _ rfl) (by omega)
      (fun q hq => by rw [prb_j]; exact used (c + q) (by omega)) (by rw [prb_j, at_c]; exact free)
    rcases spec with ⟨q, i, hq, hi, hh, hno, hpr⟩ | ⟨hno, hpr⟩
    · have hpr' : t.probe (fun i => (es[i]?.map (·.1)).getD 0) (thash P w k) (st.getD (t.probeStart (thash P w k))) = some (.candidate (way t.mask (thash P w k) (c + q)) i (prb t.mask (thash P w k) (c + (q + 1)))) := by
        rw [hst, ← prb_j, ← prb_add]
        exact hpr
      rw [hpr']
      dsimp only
      rw [prb_j] at hi
      have hil : i < L.length := by
        have h1 : i < t.place.toList.length := (List.getElem?_eq_some_iff.mp hi).1
        have h2 : t.place.size = _ := R.tab.sz
        rw [List.length_map] at h2
        rw [Array.length_toList] at h1
        omega
      obtain ⟨p, hp⟩ : ∃ p, L[i]? = some p := ⟨L[i], List.getElem?_eq_getElem hil⟩
      have hmem : p ∈ L := List.mem_of_getElem? hp
      have isp := R.tup p hmem
      have rest : wpAny (model P w) A (searchRest a (.ref x) (thash P w k) false f es t (way t.mask (thash P w k) (c + q)) i (prb t.mask (thash P w k) (c + (q + 1)))) Q E s := by
        unfold searchRest
        rw [R.entry hp]
        dsimp only
        refine wpAny_bind (wpAny_holding (wpAny_eqBool_tuple hu isp hx ?_))
        refine wpAny_bind (wpAny_setState_of hob hdata R.fits ?_)
        dsimp only
        refine wp_if_neg (by simp) ?_
        try refine wpAny_bind (wpAny_pure ?_)
        rw [sameMem]
        dsimp only
        have live : t.slot (way t.mask (thash P w k) (c + q)) = .live i := slot_live R.tab.ris hi
        simp only [if_true, live, R.entry hp]
        refine wpAny_bind (wpAny_isSame_ref_self (wpAny_bind (wpAny_pure ?_)))
        simp only [if_true]
        by_cases same : p.2 = k
        · refine wp_if_pos (by simp [same]) ?_
          exact wpAny_pure (yes (List.mem_map.mpr ⟨p, hmem, same⟩) i)
        · refine wp_if_neg (by simp [same]) ?_
          refine find_from R hx hu hN free used yes no f (c + (q + 1)) _ rfl (by omega) (by omega) fun i0 p0 h0 hk0 => ?_
          obtain ⟨c', a1, a2, a3⟩ := hre i0 p0 h0 hk0
          refine ⟨c', ?_, a2, a3⟩
          rcases Nat.lt_trichotomy c' (c + q) with z | z | z
          · exact absurd ((hashOf i0 p0 h0).trans (congrArg (thash P w) hk0)) (hno (c' - c) i0 (by omega) (by rw [prb_j, show c + (c' - c) = c' by omega]; exact a3))
          · rw [z] at a3
            have s0 : t.slot (way t.mask (thash P w k) (c + q)) = .live i0 := slot_live R.tab.ris a3
            rw [live] at s0
            injection s0 with s0
            rw [← s0, hp] at h0
            exact absurd ((congrArg Prod.snd (Option.some.inj h0)).trans hk0) same
          · omega
      by_cases hl : t.led = true
      · refine wp_if_neg (by simp [hl]) ?_
        try refine wpAny_bind (wpAny_pure ?_)
        exact rest
      · refine wp_if_pos (by simp [hl]) ?_
        refine wpAny_bind (seen_tup hx (fun y hy => ?_) ?_)
        · obtain ⟨e, he, ee⟩ := List.mem_map.mp hy
          have both : e ∈ es ∧ e.1 = thash P w k := by simpa using he
          have he2 : e ∈ es.toList := Array.mem_toList_iff.mpr both.1
          rw [R.rows] at he2
          obtain ⟨p2, hp2, e2⟩ := List.mem_map.mp he2
          exact ⟨p2.2, p2.1, by rw [← ee, ← e2], R.tup p2 hp2⟩
        · refine wp_if_neg (by decide) ?_
          try refine wpAny_bind (wpAny_pure ?_)
          exact rest
    · have hpr' : t.probe (fun i => (es[i]?.map (·.1)).getD 0) (thash P w k) (st.getD (t.probeStart (thash P w k))) = some (.empty (way t.mask (thash P w k) N) none) := by
        have e2 : way t.mask (thash P w k) N = (nth t.mask (prb t.mask (thash P w k) c) (N - c)).j := by rw [prb_j, at_c]
        rw [hst, e2]
        exact hpr
      rw [hpr']
      dsimp only
      refine wpAny_pure (no (fun hm => ?_) _ _)
      obtain ⟨p0, h0, hk0⟩ := List.mem_map.mp hm
      obtain ⟨i0, hi0, e0⟩ := List.getElem_of_mem h0
      have at0 : L[i0]? = some p0 := by rw [List.getElem?_eq_getElem hi0, e0]
      obtain ⟨c', a1, a2, a3⟩ := hre i0 p0 at0 hk0
      exact absurd ((hashOf i0 p0 at0).trans (congrArg (thash P w) hk0)) (hno (c' - c) i0 (by omega) (by rw [prb_j, show c + (c' - c) = c' by omega]; exact a3))
theorem find_at (R : SetTR P w s.heap a L es ep t) {x : Addr} {k : List Int} (hx : IsT P w s.heap k x) (hu : A.units < cLine) {Q : Option Nat → Shared → Prop}
    (h : ∀ r : Option Nat, r.isSome = decide (k ∈ L.map (·.2)) → Q r s) : wpAny (model P w) A (setFind a (.ref x) (thash P w k)) Q E s := by
  obtain ⟨ob, hob, hexact, hdata⟩ := R.ob
  unfold setFind
  rw [show (100000 : Nat) = 99999 + 1 from rfl]
  unfold setFindIn
  refine wpAny_bind (wpAny_setState_of hob hdata R.fits ?_)
  dsimp only
  refine wp_if_neg (by simp [byScan, Value.scannable]) ?_
  try refine wpAny_bind (wpAny_pure ?_)
  have room := R.room
  obtain ⟨N, hN, free, used⟩ := R.tab.first (by rw [List.length_map]; omega) (thash P w k)
  have big : N < 100000 := by
    have : 10 * SetTable.turns t.mask ≤ 1420 := by
      unfold SetTable.turns
      rcases R.tab.mok with e | e | e <;> omega
    omega
  unfold setSearch
  refine wpAny_bind (find_from R hx hu hN free used (fun hm i => ?_) (fun hm j d => ?_) 100000 0 none rfl (Nat.zero_le _) (by omega) fun i p hp hk => ?_)
  · exact wpAny_pure (h _ (by rw [decide_eq_true hm]; rfl))
  · exact wpAny_pure (h _ (by rw [decide_eq_false hm]; rfl))
  · have hi : (L.map fun p => thash P w p.2)[i]? = some (thash P w k) := by rw [List.getElem?_map, hp, ← hk] <;> rfl
    have hil : i < t.place.toList.length := by
      have h1 : i < L.length := (List.getElem?_eq_some_iff.mp hp).1
      have h2 : t.place.size = _ := R.tab.sz
      rw [List.length_map] at h2
      rw [Array.length_toList]
      omega
    have hj := List.getElem?_eq_getElem hil
    obtain ⟨c, hc, e⟩ := R.tab.before free hi hj
    exact ⟨c, Nat.zero_le _, hc, by rw [hj, e]⟩
theorem in_setT (R : SetTR P w s.heap a L es ep t) {x : Addr} {k : List Int} (hx : IsT P w s.heap k x) (hu : A.units + 64 < cLine) {Q : Value → Shared → Prop}
    (h : Q (.bool (decide (k ∈ L.map (·.2)))) { s with toks := s.toks + (k.length + 1) }) : wpAny (model P w) A (compareOp .In (.ref x) (.ref a)) Q E s := by
  obtain ⟨ob, hob, hexact, hdata⟩ := R.ob
  have hT : s.TypeIs (.ref a) "set" := ⟨ob, hob, hexact.1⟩
  show wpAny _ _ (do return .bool (← contains (.ref a) (.ref x))) Q E s
  refine wpAny_bind ?_
  unfold contains
  try with_reducible refine wpAny_holding ?_
  refine wpAny_bind (wpAny_specialOf hT F.slot_set_contains.lookup ?_)
  show wpAny _ _ (if (some (Value.builtin "set.__contains__") == some Value.none) = true then _ else _) _ E s
  rw [if_neg (by rw [beq_builtin_none]; exact Bool.false_ne_true)]
  refine wpAny_bind (wpAny_callSpecialUnlessNone?_slot (name := Str.ofString "__contains__") hT F.slot_set_contains (wpAny_call_entry F.slot_set_contains hT entry_set_contains ?_ (F.args_set_contains_2 _ _)))
  unfold Builtin.«frozenset.__contains__» Builtin.Frozenset.oneOther
  simp only [List.isEmpty_nil, bind_assoc]
  unfold Builtin.Frozenset.addrOf Builtin.Frozenset.withSetAsKey setContains
  refine wpAny_bind (wpAny_pure ?_)
  try dsimp only
  refine wpAny_bind (wpAny_pure ?_)
  try dsimp only
  refine wpAny_bind (wpAny_tryCatch ?_)
  refine wpAny_holding ?_
  have hu1 : A.in1.units < cLine := Nat.lt_of_le_of_lt (show A.in1.units ≤ A.units + 64 from by show A.units + 1 ≤ A.units + 64; omega) hu
  refine wpAny_bind (wpAny_pyHash_tuple (A := A.in1) hu1 hx ?_)
  refine wpAny_bind (find_at (s := { s with toks := s.toks + (k.length + 1) }) R hx hu1 fun r hr => ?_)
  refine wpAny_pure ?_
  show wpAny _ _ (ret (Value.bool r.isSome)) _ _ _
  rw [hr]
  exact wpAny_pure ⟨_, rfl, wpAny_truthy_bool (wpAny_pure h)⟩
end
def rInSetT (K : PySem.W.Frag) (P : Program) (w : World) : R2 := fun x y H Q => ∃ (a b : Addr) (L : List (Addr × List Int)) (k : List Int), x = .ref b ∧ y = .ref a ∧ H a = some (SetTO P w a L) ∧ (∀ p ∈ L, SqT K H p.1 (p.2.map V.int)) ∧ SqT K H b (k.map V.int) ∧ Q (.bl (decide (k ∈ L.map (·.2)))) H
theorem op_inSetT {X : Cx} (hu : X.A.units + 64 < cLine) : OpR X (compareOp .In) (rInSetT X.K X.prog X.w) := by
  intro pins s σ H x y v u Q I rx ry h
  obtain ⟨a, b, L, k, rfl, rfl, ha, hL, hb, q⟩ := h
  cases rx
  cases ry
  obtain ⟨es, ep, t, R⟩ := SetT0.full (I.hok a _ ha).1 fun p hp => I.isT (hL p hp)
  exact in_setT R (I.isT hb) hu ⟨.bl _, H, I.tok _, rfl, q⟩
end L2
set_option Elab.async false
set_option linter.all false
set_option maxRecDepth 100000
set_option maxHeartbeats 2000000
namespace L2
open PySem PySem.Spec PyProof.Rows
/-! ### len(set(xs)), a list or a tuple of unlike ints -/
def tLenSet2 (K : PySem.W.Frag) (ta : TE) : TE := fun σ H Q => ta σ H fun x H1 => ∃ (l : Addr) (ns : List Int), x = V.ref l ∧ (SqL K H1 l (ns.map V.int) ∨ SqT K H1 l (ns.map V.int)) ∧ ns.length < 64 ∧ ns.Nodup ∧ Q (.int ns.length) H1
theorem pe_lenSet2 {X : Cx} {a : Expr} {ta : TE} {p p2 q pos : Pos} (hc : X.calm = true) (hg : Gl X "len") (hm : X.mg "len" = none) (hg2 : Gl X "set") (hm2 : X.mg "set" = none) (ha : PE X a ta)
    (na : starEach [a] X.env = (false, eval a X.env) :: starEach [] X.env := by rfl) : PE X (.Call (.Name "len" p) [.Call (.Name "set" p2) [a] [] q] [] pos) (tLenSet2 X.K ta) := by
  refine ⟨fun pins s σ H Q I h => ?_⟩
  refine Call_ (ld_blt I hg hm PySem.boot_len (PyProof.Rows.callWith_builtin1 (PyProof.Rows.args_cons ?_ rfl) rfl rfl))
  refine Call_ (ld_blt I hg2 hm2 PyProof.Rows.boot_set (PyProof.Rows.callWith_type1 (PyProof.Rows.args_cons (thn (ha.run pins s σ H _ I h) fun v s1 ⟨x, H1, I1, r1, q1⟩ => PyProof.Rows.args_nil ?_) na) na rfl))
  obtain ⟨l, ns, rfl, hq, few, nd, q1⟩ := q1
  cases r1
  have hd := I1.ok.hd hc
  rcases hq with hq | hq
  · obtain ⟨its, r, pl, hz⟩ := I1.list hq
    have hl : its.toArray.size = ns.length := by rw [List.size_toArray, ← r.length, List.length_map]
    refine call_set_list hd pl.isList (ns := ns) (by simpa using r.ints) (by unfold scanBound; omega) fun h' tk S k => ?_
    rw [hl, firstMet_nodup ns nd ns.length (Nat.le_refl _), List.take_length] at S
    obtain ⟨o, es, ep, t, ho, hex, hdt, _, _, _, hf, hn⟩ := S
    have I2 : Inv X pins σ H1 { s1 with heap := h', toks := tk } := I1.kept fun b o e => k b o (Heap.lt_size e) e
    exact PyProof.Rows.args_nil (call_len_set ho hex hdt hf (by rw [hn] <;> omega) ⟨.int ns.length, H1, I2.tok _, ⟨_, by rw [hn]⟩, q1⟩)
  · obtain ⟨its, rv, pt, hz⟩ := I1.tuple hq
    refine call_set_tupI ns hd (show s1.heap.IsTuple l its.toArray from pt) (ints_of_vals rv) (by unfold scanBound; omega) fun h' tk c R1 hcn k => ?_
    obtain ⟨o, es, ep, t, ho, hex, hdt, g, ndk, hm2, hb, hf, hn, hr, hl2⟩ := R1
    have pm : (es.toList.map keyOf).Perm ns := by
      refine (List.perm_ext_iff_of_nodup ndk nd).mpr fun j => ?_
      rw [← hm2 j, decide_eq_true_eq]
    have hsz : es.size = ns.length := by
      have := pm.length_eq
      rw [List.length_map, Array.length_toList] at this
      exact this
    have I2 : Inv X pins σ H1 { s1 with heap := h', toks := tk } := I1.kept k
    exact PyProof.Rows.args_nil (call_len_set ho hex hdt hf (by rw [hsz] <;> omega) ⟨.int ns.length, H1, I2.tok _, ⟨_, by rw [hsz]⟩, q1⟩)
end L2
set_option Elab.async false
set_option linter.all false
set_option maxRecDepth 100000
set_option maxHeartbeats 2000000
namespace Y
open PySem L2
/-! ### all but one object stands -/
def But (p : Addr) (H H' : Hp) : Prop := ∀ b o, b ≠ p → H b = some o → H' b = some o
theorem But.refl (p : Addr) (H : Hp) : But p H H := fun _ _ _ h => h
theorem But.trans {p : Addr} {H H1 H2 : Hp} (a : But p H H1) (b : But p H1 H2) : But p H H2 := fun c o n h => b c o n (a c o n h)
theorem But.upd {p : Addr} {H : Hp} {o : HO} : But p H (upd H p o) := fun b u n h => by rw [upd_ne n]; exact h
theorem But.of_same {p : Addr} {H H' : Hp} (s : Same H H') : But p H H' := fun b o _ h => s b o h
theorem Same.new {H : Hp} {a : Addr} {o : HO} (h : H a = none) : Same H (upd H a o) := fun b u e => by
  rw [upd_ne (ne_of_none e h)]
  exact e
/-! ### the pen's dict -/
def penD (l : Addr) (a g c f : Int) : List (Key × V) :=
  [(Sum.inr "cells", .ref l), (Sum.inr "at", .int a), (Sum.inr "digits", .int g), (Sum.inr "count", .int c), (Sum.inr "fold", .int f)]
theorem k12 : ¬ ((Sum.inr ("cells" : Str) : Key) = Sum.inr ("at" : Str)) := by decide +kernel
theorem k13 : ¬ ((Sum.inr ("cells" : Str) : Key) = Sum.inr ("digits" : Str)) := by decide +kernel
theorem k14 : ¬ ((Sum.inr ("cells" : Str) : Key) = Sum.inr ("count" : Str)) := by decide +kernel
theorem k15 : ¬ ((Sum.inr ("cells" : Str) : Key) = Sum.inr ("fold" : Str)) := by decide +kernel
theorem k21 : ¬ ((Sum.inr ("at" : Str) : Key) = Sum.inr ("cells" : Str)) := by decide +kernel
theorem k23 : ¬ ((Sum.inr ("at" : Str) : Key) = Sum.inr ("digits" : Str)) := by decide +kernel
theorem k24 : ¬ ((Sum.inr ("at" : Str) : Key) = Sum.inr ("count" : Str)) := by decide +kernel
theorem k25 : ¬ ((Sum.inr ("at" : Str) : Key) = Sum.inr ("fold" : Str)) := by decide +kernel
theorem k31 : ¬ ((Sum.inr ("digits" : Str) : Key) = Sum.inr ("cells" : Str)) := by decide +kernel
theorem k32 : ¬ ((Sum.inr ("digits" : Str) : Key) = Sum.inr ("at" : Str)) := by decide +kernel
theorem k34 : ¬ ((Sum.inr ("digits" : Str) : Key) = Sum.inr ("count" : Str)) := by decide +kernel
theorem k35 : ¬ ((Sum.inr ("digits" : Str) : Key) = Sum.inr ("fold" : Str)) := by decide +kernel
theorem k41 : ¬ ((Sum.inr ("count" : Str) : Key) = Sum.inr ("cells" : Str)) := by decide +kernel
theorem k42 : ¬ ((Sum.inr ("count" : Str) : Key) = Sum.inr ("at" : Str)) := by decide +kernel
theorem k43 : ¬ ((Sum.inr ("count" : Str) : Key) = Sum.inr ("digits" : Str)) := by decide +kernel
theorem k45 : ¬ ((Sum.inr ("count" : Str) : Key) = Sum.inr ("fold" : Str)) := by decide +kernel
theorem k51 : ¬ ((Sum.inr ("fold" : Str) : Key) = Sum.inr ("cells" : Str)) := by decide +kernel
theorem k52 : ¬ ((Sum.inr ("fold" : Str) : Key) = Sum.inr ("at" : Str)) := by decide +kernel
theorem k53 : ¬ ((Sum.inr ("fold" : Str) : Key) = Sum.inr ("digits" : Str)) := by decide +kernel
theorem k54 : ¬ ((Sum.inr ("fold" : Str) : Key) = Sum.inr ("count" : Str)) := by decide +kernel
section
variable {l : Addr} {a g c f z : Int}
theorem pen_cells : valV (penD l a g c f) (Sum.inr "cells") = some (.ref l) := valV_pos rfl
theorem pen_at : valV (penD l a g c f) (Sum.inr "at") = some (.int a) := by
  rw [penD, valV_neg k12, valV_pos rfl]
theorem pen_digits : valV (penD l a g c f) (Sum.inr "digits") = some (.int g) := by
  rw [penD, valV_neg k13, valV_neg k23, valV_pos rfl]
theorem pen_count : valV (penD l a g c f) (Sum.inr "count") = some (.int c) := by
  rw [penD, valV_neg k14, valV_neg k24, valV_neg k34, valV_pos rfl]
theorem pen_fold : valV (penD l a g c f) (Sum.inr "fold") = some (.int f) := by
  rw [penD, valV_neg k15, valV_neg k25, valV_neg k35, valV_neg k45, valV_pos rfl]
theorem put_at : putK (penD l a g c f) (Sum.inr "at") (.int z) = penD l z g c f := by
  unfold putK
  rw [if_pos (by rw [valV_any, pen_at]; rfl)]
  simp only [penD, List.map_cons, List.map_nil, if_neg k12, if_neg k32, if_neg k42, if_neg k52, if_pos]
theorem put_digits : putK (penD l a g c f) (Sum.inr "digits") (.int z) = penD l a z c f := by
  unfold putK
  rw [if_pos (by rw [valV_any, pen_digits]; rfl)]
  simp only [penD, List.map_cons, List.map_nil, if_neg k13, if_neg k23, if_neg k43, if_neg k53, if_pos]
theorem put_count : putK (penD l a g c f) (Sum.inr "count") (.int z) = penD l a g z f := by
  unfold putK
  rw [if_pos (by rw [valV_any, pen_count]; rfl)]
  simp only [penD, List.map_cons, List.map_nil, if_neg k14, if_neg k24, if_neg k34, if_neg k54, if_pos]
theorem put_fold : putK (penD l a g c f) (Sum.inr "fold") (.int z) = penD l a g c z := by
  unfold putK
  rw [if_pos (by rw [valV_any, pen_fold]; rfl)]
  simp only [penD, List.map_cons, List.map_nil, if_neg k15, if_neg k25, if_neg k35, if_neg k45, if_pos]
end
/-- the pen at p, b more draws being allowed -/
structure Pen (H : Hp) (p l : Addr) (b : Nat) : Prop where
  ex : ∃ (ns : List Int) (a g c f : Int), H p = some (.dK (penD l a g c f)) ∧ H l = some (.lst (ns.map V.int)) ∧ ns.length ≤ 63 ∧
    0 ≤ a ∧ 0 ≤ g ∧ 0 ≤ c ∧ c + (b : Int) ≤ 2 ^ 40 ∧ 0 ≤ f ∧ f < 2147483587
theorem Pen.less {H : Hp} {p l : Addr} {b b' : Nat} (h : Pen H p l b) (hb : b' ≤ b) : Pen H p l b' := by
  obtain ⟨ns, a, g, c, f, h1, h2, h3, h4, h5, h6, h7, h8, h9⟩ := h.ex
  exact ⟨ns, a, g, c, f, h1, h2, h3, h4, h5, h6, by omega, h8, h9⟩
theorem Pen.there {H : Hp} {p l : Addr} {b : Nat} (h : Pen H p l b) : ∃ kvs, H p = some (.dK kvs) := by
  obtain ⟨ns, a, g, c, f, h1, _⟩ := h.ex
  exact ⟨_, h1⟩
theorem Pen.cells {H : Hp} {p l : Addr} {b : Nat} (h : Pen H p l b) : ∃ vs, H l = some (.lst vs) := by
  obtain ⟨ns, a, g, c, f, _, h2, _⟩ := h.ex
  exact ⟨_, h2⟩
theorem Pen.same {H H' : Hp} {p l : Addr} {b : Nat} (h : Pen H p l b) (s : Same H H') : Pen H' p l b := by
  obtain ⟨ns, a, g, c, f, h1, h2, h3⟩ := h.ex
  exact ⟨ns, a, g, c, f, s _ _ h1, s _ _ h2, h3⟩
theorem Pen.upd {H : Hp} {p l x : Addr} {o : HO} {b : Nat} (h : Pen H p l b) (n1 : p ≠ x) (n2 : l ≠ x) : Pen (upd H x o) p l b := by
  obtain ⟨ns, a, g, c, f, h1, h2, h3⟩ := h.ex
  exact ⟨ns, a, g, c, f, by rw [upd_ne n1]; exact h1, by rw [upd_ne n2]; exact h2, h3⟩
/-- what is new is neither the pen nor its cells -/
theorem Pen.off {H : Hp} {p l x : Addr} {b : Nat} (h : Pen H p l b) (n : H x = none) : p ≠ x ∧ l ≠ x := by
  obtain ⟨kvs, h1⟩ := h.there
  obtain ⟨vs, h2⟩ := h.cells
  exact ⟨ne_of_none h1 n, ne_of_none h2 n⟩
/-! ### the promises -/
def spPen (K : PySem.W.Frag) : Sp := fun vs H Q _ => ∃ (a : Addr) (ns : List Int), vs = [.ref a] ∧ SqL K H a (ns.map V.int) ∧ ns.length ≤ 63 ∧
  ∀ (p l : Addr) (H' : Hp), Pen H' p l (2 ^ 40) → Same H H' → H p = none → Q (.ref p) H'
def spDraw : Sp := fun vs H Q _ => ∃ (p l : Addr) (m : Int) (b : Nat), vs = [.ref p, .int m] ∧ Pen H p l (b + 1) ∧ 0 < m ∧ m ≤ 2 ^ 40 ∧
  ∀ (n : Int) (H' : Hp), 0 ≤ n → n < m → Pen H' p l b → But p H H' → Q (.int n) H'
def spPick (K : PySem.W.Frag) : Sp := fun vs H Q _ => ∃ (p l s : Addr) (xs : List V) (b : Nat), vs = [.ref p, .ref s] ∧ Pen H p l (b + 1) ∧ (SqL K H s xs ∨ SqT K H s xs) ∧ xs ≠ [] ∧ xs.length ≤ 1000000 ∧
  ∀ (x : V) (i : Nat) (H' : Hp), xs[i]? = some x → Pen H' p l b → But p H H' → Q x H'
theorem pen_merge {l : Addr} {a g c f : Int} : mergeK [] (penD l a g c f) = penD l a g c f := by
  show putK (putK (putK (putK (putK ([]) (Sum.inr "cells" : Key) (V.ref l)) (Sum.inr "at" : Key) (V.int a)) (Sum.inr "digits" : Key) (V.int g)) (Sum.inr "count" : Key) (V.int c)) (Sum.inr "fold" : Key) (V.int f) = penD l a g c f
  have e1 : putK ([] : List (Key × V)) (Sum.inr "cells" : Key) (V.ref l) = [((Sum.inr "cells" : Key), V.ref l)] := putK_new _ rfl
  have e2 : putK [((Sum.inr "cells" : Key), V.ref l)] (Sum.inr "at" : Key) (V.int a) = [((Sum.inr "cells" : Key), V.ref l), ((Sum.inr "at" : Key), V.int a)] := putK_new _ (by rw [valV_neg k12]; rfl)
  have e3 : putK [((Sum.inr "cells" : Key), V.ref l), ((Sum.inr "at" : Key), V.int a)] (Sum.inr "digits" : Key) (V.int g) = [((Sum.inr "cells" : Key), V.ref l), ((Sum.inr "at" : Key), V.int a), ((Sum.inr "digits" : Key), V.int g)] := putK_new _ (by rw [valV_neg k13, valV_neg k23]; rfl)
  have e4 : putK [((Sum.inr "cells" : Key), V.ref l), ((Sum.inr "at" : Key), V.int a), ((Sum.inr "digits" : Key), V.int g)] (Sum.inr "count" : Key) (V.int c) = [((Sum.inr "cells" : Key), V.ref l), ((Sum.inr "at" : Key), V.int a), ((Sum.inr "digits" : Key), V.int g), ((Sum.inr "count" : Key), V.int c)] := putK_new _ (by rw [valV_neg k14, valV_neg k24, valV_neg k34]; rfl)
  have e5 : putK [((Sum.inr "cells" : Key), V.ref l), ((Sum.inr "at" : Key), V.int a), ((Sum.inr "digits" : Key), V.int g), ((Sum.inr "count" : Key), V.int c)] (Sum.inr "fold" : Key) (V.int f) = [((Sum.inr "cells" : Key), V.ref l), ((Sum.inr "at" : Key), V.int a), ((Sum.inr "digits" : Key), V.int g), ((Sum.inr "count" : Key), V.int c), ((Sum.inr "fold" : Key), V.int f)] := putK_new _ (by rw [valV_neg k15, valV_neg k25, valV_neg k35, valV_neg k45]; rfl)
  rw [e1, e2, e3, e4, e5]
  rfl
theorem pen_small {l : Addr} {a g c f : Int} : (penD l a g c f).length < sizeLine := by show 5 < sizeLine; decide
section
variable {H : Hp} {p l : Addr} {a g c f z : Int}
theorem get_cells (e : H p = some (.dK (penD l a g c f))) : DGet H p (.str "cells") (some (.ref l)) := .inl ⟨_, Sum.inr "cells", .inl e, rfl, pen_cells.symm⟩
theorem get_at (e : H p = some (.dK (penD l a g c f))) : DGet H p (.str "at") (some (.int a)) := .inl ⟨_, Sum.inr "at", .inl e, rfl, pen_at.symm⟩
theorem get_digits (e : H p = some (.dK (penD l a g c f))) : DGet H p (.str "digits") (some (.int g)) := .inl ⟨_, Sum.inr "digits", .inl e, rfl, pen_digits.symm⟩
theorem get_count (e : H p = some (.dK (penD l a g c f))) : DGet H p (.str "count") (some (.int c)) := .inl ⟨_, Sum.inr "count", .inl e, rfl, pen_count.symm⟩
theorem get_fold (e : H p = some (.dK (penD l a g c f))) : DGet H p (.str "fold") (some (.int f)) := .inl ⟨_, Sum.inr "fold", .inl e, rfl, pen_fold.symm⟩
theorem dput_count (e : H p = some (.dK (penD l a g c f))) : DPut H p (.str "count") (.int z) (upd H p (.dK (penD l a g z f))) := .inl ⟨_, Sum.inr "count", e, rfl, pen_small, by rw [put_count]⟩
theorem dput_at : DPut (upd H p (.dK (penD l a g c f))) p (.str "at") (.int z) (upd H p (.dK (penD l z g c f))) := .inl ⟨_, Sum.inr "at", upd_same, rfl, pen_small, by rw [put_at, upd_upd]⟩
theorem dput_digits : DPut (upd H p (.dK (penD l a g c f))) p (.str "digits") (.int z) (upd H p (.dK (penD l a z c f))) := .inl ⟨_, Sum.inr "digits", upd_same, rfl, pen_small, by rw [put_digits, upd_upd]⟩
theorem dput_fold : DPut (upd H p (.dK (penD l a g c f))) p (.str "fold") (.int z) (upd H p (.dK (penD l a g c z))) := .inl ⟨_, Sum.inr "fold", upd_same, rfl, pen_small, by rw [put_fold, upd_upd]⟩
end
theorem But.keep {p : Addr} {H H' : Hp} {a : Addr} {o u : HO} (s : But p H H') (hp : H p = some u) (h : H a = some o) (d : o ≠ u) : H' a = some o := s a o (fun e => d (by rw [e, hp] at h; exact (Option.some.inj h).symm)) h
theorem ints_at {ns : List Int} {i : Nat} {y : V} (h : (ns.map V.int)[i]? = some y) : ∃ z, ns[i]? = some z ∧ y = V.int z := by
  rw [List.getElem?_map] at h
  cases e : ns[i]? with
  | none => rw [e] at h; cases h
  | some z => rw [e] at h; exact ⟨z, rfl, (Option.some.inj h).symm⟩
end Y
namespace Y
open PySem L2
theorem atI_int {α : Type} {xs : List α} {i : Int} {v : α} (h0 : 0 ≤ i) (h : xs[i.toNat]? = some v) : atI xs i = some v := by
  have := atI_nat h
  rwa [show ((i.toNat : Nat) : Int) = i by omega] at this
/-- an item that is there -/
theorem there_int {α : Type} {xs : List α} {i : Int} (h0 : 0 ≤ i) (h1 : i < (xs.length : Int)) : ∃ v, xs[i.toNat]? = some v ∧ atI xs i = some v := by
  have h : i.toNat < xs.length := by omega
  exact ⟨xs[i.toNat], List.getElem?_eq_getElem h, atI_int h0 (List.getElem?_eq_getElem h)⟩
theorem But.seq {K : PySem.W.Frag} {p : Addr} {H H' : Hp} {a : Addr} {xs : List V} {kvs : List (Key × V)} (e : But p H H') (hp : H p = some (.dK kvs)) (h : SqL K H a xs) : SqL K H' a xs := by
  rcases h with (h | ⟨o, h⟩) | h
  · exact .inl (.inl (e.keep hp h (by intro z; cases z)))
  · exact .inl (.inr ⟨o, e.keep hp h (by intro z; cases z)⟩)
  · exact .inr h
theorem But.seqT {K : PySem.W.Frag} {p : Addr} {H H' : Hp} {a : Addr} {xs : List V} {kvs : List (Key × V)} (e : But p H H') (hp : H p = some (.dK kvs)) (h : SqT K H a xs) : SqT K H' a xs := by
  rcases h with (h | ⟨o, h⟩) | h
  · exact .inl (.inl (e.keep hp h (by intro z; cases z)))
  · exact .inl (.inr ⟨o, e.keep hp h (by intro z; cases z)⟩)
  · exact .inr h
end Y
set_option Elab.async false
set_option linter.all false
set_option maxRecDepth 100000
set_option maxHeartbeats 2000000
namespace Y
open PySem PySem.Spec PyProof.Rows L2
/-! ### all but dicts stands -/
def Kp (H H' : Hp) : Prop := ∀ b o, H b = some o → (∀ kvs, o ≠ .dK kvs) → H' b = some o
theorem Kp.refl (H : Hp) : Kp H H := fun _ _ h _ => h
theorem Kp.trans {H H1 H2 : Hp} (a : Kp H H1) (b : Kp H1 H2) : Kp H H2 := fun c o h n => b c o (a c o h n) n
theorem Kp.of_same {H H' : Hp} (s : Same H H') : Kp H H' := fun b o h _ => s b o h
theorem Kp.of_but {p : Addr} {H H' : Hp} {kvs : List (Key × V)} (s : But p H H') (h : H p = some (.dK kvs)) : Kp H H' := fun b o e n => s b o (fun z => n kvs (by rw [z, h] at e; exact (Option.some.inj e).symm)) e
theorem Kp.new {H : Hp} {a : Addr} {o : HO} (h : H a = none) : Kp H (upd H a o) := .of_same (Same.new h)
/-- a store at an object that is new -/
theorem Kp.upd {H H' : Hp} {a : Addr} {o : HO} (s : Kp H H') (h : H a = none) : Kp H (upd H' a o) := fun b u e n => by rw [upd_ne (ne_of_none e h)]; exact s b u e n
section
variable {K : PySem.W.Frag} {H H' : Hp}
theorem Kp.lst {a : Addr} {xs : List V} (s : Kp H H') (h : H a = some (.lst xs)) : H' a = some (.lst xs) := s _ _ h fun _ z => by cases z
theorem Kp.tup {a : Addr} {xs : List V} (s : Kp H H') (h : H a = some (.tup xs)) : H' a = some (.tup xs) := s _ _ h fun _ z => by cases z
theorem Kp.seqT {a : Addr} {xs : List V} (s : Kp H H') (h : SqT K H a xs) : SqT K H' a xs := by
  rcases h with (h | ⟨o, h⟩) | h
  · exact .inl (.inl (s _ _ h fun _ z => by cases z))
  · exact .inl (.inr ⟨o, s _ _ h fun _ z => by cases z⟩)
  · exact .inr h
theorem Kp.seqL {a : Addr} {xs : List V} (s : Kp H H') (h : SqL K H a xs) : SqL K H' a xs := by
  rcases h with (h | ⟨o, h⟩) | h
  · exact .inl (.inl (s _ _ h fun _ z => by cases z))
  · exact .inl (.inr ⟨o, s _ _ h fun _ z => by cases z⟩)
  · exact .inr h
theorem Kp.seq {a : Addr} {xs : List V} (s : Kp H H') (h : SqL K H a xs ∨ SqT K H a xs) : SqL K H' a xs ∨ SqT K H' a xs := h.imp s.seqL s.seqT
mutual
theorem Kp.dp (s : Kp H H') : ∀ {v : V} {d : PyData}, Dp K H v d → Dp K H' v d
  | _, _, .non => .non
  | _, _, .bl b => .bl b
  | _, _, .int i => .int i
  | _, _, .str x => .str x
  | _, _, .lst h t => .lst (s.seqL h) (Kp.dpAll s t)
  | _, _, .tup h t => .tup (s.seqT h) (Kp.dpAll s t)
theorem Kp.dpAll (s : Kp H H') : ∀ {vs : List V} {ds : List PyData}, DpAll K H vs ds → DpAll K H' vs ds
  | _, _, .nil => .nil
  | _, _, .cons h t => .cons (Kp.dp s h) (Kp.dpAll s t)
end
end
theorem erase_perm {α : Type} : ∀ {l : List α} {k : Nat} {y : α}, l[k]? = some y → (y :: l.eraseIdx k).Perm l
  | [], k, y, h => by simp at h
  | a :: l, 0, y, h => by cases Option.some.inj h; exact .refl _
  | a :: l, k + 1, y, h => (List.Perm.swap a y _).trans ((erase_perm (l := l) (k := k) (y := y) h).cons a)
theorem pop_perm {α : Type} {f l xs : List α} {k : Nat} {y : α} (h : l[k]? = some y) (p : (f ++ l).Perm xs) : ((f ++ [y]) ++ l.eraseIdx k).Perm xs := by
  rw [List.append_assoc]
  exact ((erase_perm h).append_left f).trans p
theorem get_of_lt {α : Type} {l : List α} {n : Int} (h0 : 0 ≤ n) (h1 : n < l.length) : ∃ y, l[n.toNat]? = some y := ⟨l[n.toNat]'(by omega), List.getElem?_eq_getElem (by omega)⟩
end Y
set_option Elab.async false
set_option linter.all false
set_option maxRecDepth 100000
set_option maxHeartbeats 2000000
/-! comprehensions whose items are reckoned without a trace: the new list holds the values in order -/
namespace Y
open PySem PySem.Spec PyProof.Rows L2
theorem take_next {α : Type} : ∀ {l : List α} {i : Nat} {x : α}, l[i]? = some x → l.take (i + 1) = l.take i ++ [x]
  | [], i, x, h => by simp at h
  | a :: l, 0, x, h => by
    cases Option.some.inj h
    rfl
  | a :: l, i + 1, x, h => by
    have ih := take_next (l := l) (i := i) (x := x) h
    show a :: l.take (i + 1) = a :: l.take i ++ [x]
    rw [ih]
    rfl
section
variable {K : PySem.W.Frag} {a D : Addr} {xs : List V} {g : TG} {te : TE} {vs : List Nat} {σ : L2.St} {H1 : Hp} {Qd : Hp → Prop} {f : V → V}
/-- over a list -/
theorem lcp_list (hn : H1 D = none) (hz : xs.length ≤ 1000000) (ha : SqL K H1 a xs)
    (he : ∀ (i : Nat) (x : V) (H : Hp) (R : VK), xs[i]? = some x → Same H1 H → R (f x) H → g x (wipe σ vs) H fun σ2 H2 => wipe σ2 vs = wipe σ vs ∧ te σ2 H2 R) (hd : Qd (upd H1 D (.lst (xs.map f)))) :
    ∃ W : Nat → Nat → Hp → Prop, (∃ m, W 0 m (upd H1 D (.lst []))) ∧ ∀ i m H, W i m H →
      ((Itl K a).stop i H ∧ Qd H) ∨ ((Itl K a).go i H ∧ ∃ Nx : Hp → Prop, (∀ H', Nx H' → ∃ m', m' < m ∧ W (i + 1) m' H') ∧ ∀ x H', (Itl K a).yld i H x H' → g x (wipe σ vs) H' fun σ2 H2 => wipe σ2 vs = wipe σ vs ∧ tYes σ2 H2 fun b H3 =>
        if b = true then te σ2 H3 fun y H4 => ∃ acc, H4 D = some (.lst acc) ∧ acc.length < sizeLine ∧ Nx (upd H4 D (.lst (acc ++ [y]))) else Nx H3) := by
  refine lc_list (K := K) (a := a) (xs := xs) (fun i H => H = upd H1 D (.lst ((xs.take i).map f))) rfl (fun i H _ e => ?_) (fun i x H hi e => ?_) (fun H e => ?_)
  · rw [e]
    exact (Y.Same.new hn).seq ha
  · subst e
    refine he i x _ _ hi (Y.Same.new hn) ⟨(xs.take i).map f, upd_same, ?_, ?_⟩
    · rw [List.length_map, List.length_take]
      have : sizeLine = 16777216 := sizeLine_eq
      omega
    · rw [upd_upd, take_next hi, List.map_append]
      rfl
  · rw [e, List.take_length]
    exact hd
/-- over a tuple -/
theorem lcp_tup (hn : H1 D = none) (hz : xs.length ≤ 1000000) (ha : SqT K H1 a xs) (hS : ∀ H', Same H1 H' → SqT K H' a xs)
    (he : ∀ (i : Nat) (x : V) (H : Hp) (R : VK), xs[i]? = some x → Same H1 H → R (f x) H → g x (wipe σ vs) H fun σ2 H2 => wipe σ2 vs = wipe σ vs ∧ te σ2 H2 R) (hd : Qd (upd H1 D (.lst (xs.map f)))) :
    ∃ W : Nat → Nat → Hp → Prop, (∃ m, W 0 m (upd H1 D (.lst []))) ∧ ∀ i m H, W i m H →
      ((Itt K a).stop i H ∧ Qd H) ∨ ((Itt K a).go i H ∧ ∃ Nx : Hp → Prop, (∀ H', Nx H' → ∃ m', m' < m ∧ W (i + 1) m' H') ∧ ∀ x H', (Itt K a).yld i H x H' → g x (wipe σ vs) H' fun σ2 H2 => wipe σ2 vs = wipe σ vs ∧ tYes σ2 H2 fun b H3 =>
        if b = true then te σ2 H3 fun y H4 => ∃ acc, H4 D = some (.lst acc) ∧ acc.length < sizeLine ∧ Nx (upd H4 D (.lst (acc ++ [y]))) else Nx H3) := by
  refine lc_tup (K := K) (a := a) (xs := xs) (fun i H => H = upd H1 D (.lst ((xs.take i).map f))) rfl (fun i H _ e => ?_) (fun i x H hi e => ?_) (fun H e => ?_)
  · rw [e]
    exact hS _ (Y.Same.new hn)
  · subst e
    refine he i x _ _ hi (Y.Same.new hn) ⟨(xs.take i).map f, upd_same, ?_, ?_⟩
    · rw [List.length_map, List.length_take]
      have : sizeLine = 16777216 := sizeLine_eq
      omega
    · rw [upd_upd, take_next hi, List.map_append]
      rfl
  · rw [e, List.take_length]
    exact hd
/-- over a text, sign by sign -/
theorem lcp_str {t : Str} {f : Nat → V} (hn : H1 D = none) (hz : t.cps.size ≤ 1000000)
    (he : ∀ (i c : Nat) (H : Hp) (R : VK), t.cps[i]? = some c → Same H1 H → R (f c) H → g (.str ⟨#[c]⟩) (wipe σ vs) H fun σ2 H2 => wipe σ2 vs = wipe σ vs ∧ te σ2 H2 R) (hd : Qd (upd H1 D (.lst (t.cps.toList.map f)))) :
    ∃ W : Nat → Nat → Hp → Prop, (∃ m, W 0 m (upd H1 D (.lst []))) ∧ ∀ i m H, W i m H →
      ((Its t).stop i H ∧ Qd H) ∨ ((Its t).go i H ∧ ∃ Nx : Hp → Prop, (∀ H', Nx H' → ∃ m', m' < m ∧ W (i + 1) m' H') ∧ ∀ x H', (Its t).yld i H x H' → g x (wipe σ vs) H' fun σ2 H2 => wipe σ2 vs = wipe σ vs ∧ tYes σ2 H2 fun b H3 =>
        if b = true then te σ2 H3 fun y H4 => ∃ acc, H4 D = some (.lst acc) ∧ acc.length < sizeLine ∧ Nx (upd H4 D (.lst (acc ++ [y]))) else Nx H3) := by
  refine ⟨fun i m H => m = t.cps.size - i ∧ i ≤ t.cps.size ∧ H = upd H1 D (.lst ((t.cps.toList.take i).map f)), ⟨t.cps.size, by simp, Nat.zero_le _, rfl⟩, ?_⟩
  rintro i m H ⟨rfl, hi, rfl⟩
  by_cases c : i < t.cps.size
  · refine .inr ⟨c, fun H => H = upd H1 D (.lst ((t.cps.toList.take (i + 1)).map f)), fun H' e => ⟨t.cps.size - (i + 1), by omega, rfl, c, e⟩, ?_⟩
    rintro x H' ⟨rfl, d, hd', rfl⟩
    refine he i d _ _ hd' (Y.Same.new hn) ⟨_, upd_same, ?_, ?_⟩
    · rw [List.length_map]
      have : sizeLine = 16777216 := sizeLine_eq
      have := List.length_take_le i t.cps.toList
      omega
    · have e : t.cps.toList[i]? = some d := by rw [Array.getElem?_toList]; exact hd'
      rw [upd_upd, take_next e, List.map_append]
      rfl
  · refine .inl ⟨by show t.cps.size ≤ i; omega, ?_⟩
    rw [List.take_of_length_le (by rw [Array.length_toList]; omega)]
    exact hd
end
theorem Same.seqT {K : PySem.W.Frag} {H H' : Hp} {a : Addr} {xs : List V} (e : Same H H') (h : SqT K H a xs) : SqT K H' a xs := by
  rcases h with (h | ⟨o, h⟩) | h
  · exact .inl (.inl (e _ _ h))
  · exact .inl (.inr ⟨o, e _ _ h⟩)
  · exact .inr h
end Y
namespace Y
open PySem PySem.Spec PyProof.Rows L2
section
variable {X : Cx} {x : Str} {pos : Pos}
/-- a name of the module: an int, a text, an object -/
theorem pgI {i : Int} {t : Tok} (hm : X.mg x = some (.int i t)) (hg : Gl X x := by rfl) (hd : (x == ("__debug__" : Str)) = false := by decide) : PE X (.Name x pos) (tC (.int i)) := pe_glob (v := .int i) hg hm ⟨_, rfl⟩ hd
theorem pgS {z : Str} {t : Tok} (hm : X.mg x = some (.str z t)) (hg : Gl X x := by rfl) (hd : (x == ("__debug__" : Str)) = false := by decide) : PE X (.Name x pos) (tC (.str z)) := pe_glob (v := .str z) hg hm ⟨_, rfl⟩ hd
theorem pgR {a : Addr} (hm : X.mg x = some (.ref a)) (hg : Gl X x := by rfl) (hd : (x == ("__debug__" : Str)) = false := by decide) : PE X (.Name x pos) (tC (.ref a)) := pe_glob (v := .ref a) hg hm rfl hd
/-- a built-in class as a value -/
theorem pbT {n : String} (hm : X.mg x = none) (hv : bootBuiltins x = some (.type n)) (hg : Gl X x := by rfl) (hn : x ≠ "__name__" := by decide) (hd : (x == ("__debug__" : Str)) = false := by decide) : PE X (.Name x pos) (tC (.ty n)) := pe_bltn (v := .ty n) hg hm hv rfl hn hd
end
theorem ifT {c : Bool} {A B : Prop} (h : c = true → A) (h2 : c = false → B) : if c = true then A else B := by
  cases c with
  | true => rw [if_pos rfl]; exact h rfl
  | false => rw [if_neg Bool.false_ne_true]; exact h2 rfl
theorem len_cps (t : Str) : t.cps.toList.length = t.length := by simp [Str.length]
theorem small_line {n : Nat} (h : n ≤ 1000) : n ≤ sizeLine := Nat.le_trans h (by decide)
end Y
set_option Elab.async false
set_option linter.all false
set_option maxRecDepth 100000
set_option maxHeartbeats 2000000
namespace Y
open PySem PySem.Spec PyProof.Rows L2
/-! ### walks over a variable that holds a list or a tuple, whichever it is -/
abbrev SqA (K : PySem.W.Frag) (H : Hp) (a : Addr) (xs : List V) : Prop := SqL K H a xs ∨ SqT K H a xs
theorem Same.refl' (H : Hp) : Same H H := fun _ _ h => h
theorem Same.seqA {K : PySem.W.Frag} {H H' : Hp} {a : Addr} {xs : List V} (e : Same H H') (h : SqA K H a xs) : SqA K H' a xs := h.imp e.seq (Same.seqT e)
theorem walk_enumT {K : PySem.W.Frag} {a : Addr} {xs : List V} : Walk (IteT K a) xs.length (fun H => SqT K H a xs) (YPair (fun i => some (.int (i : Nat))) (fun i => xs[i]?)) := by
  refine ⟨fun i _ hi q => ⟨xs, xs[i], q, by simp [hi]⟩, fun _ q => ⟨xs, q, rfl⟩, fun i H v H' _ q y => ?_⟩
  obtain ⟨T, x, e1, e2, e3, h⟩ := y
  exact ⟨T, _, x, e1, e2, e3, rfl, h xs q⟩
theorem walk_revT {K : PySem.W.Frag} {a : Addr} {xs : List V} : Walk (RT.ItvT K a xs.length) xs.length (fun H => SqT K H a xs) (fun i H x H' => H' = H ∧ xs[xs.length - 1 - i]? = some x) :=
  ⟨fun i _ hi q => ⟨hi, xs, xs[xs.length - 1 - i]'(by omega), q, by simp [show xs.length - 1 - i < xs.length by omega]⟩, fun _ _ => Nat.le_refl _, fun _ _ _ _ _ q y => ⟨y.1, y.2 xs q⟩⟩
def YRev (xs : List V) : Nat → Hp → V → Hp → Prop := fun i H x H' => H' = H ∧ xs[xs.length - 1 - i]? = some x
def YEnum (xs : List V) : Nat → Hp → V → Hp → Prop := YPair (fun i => some (.int (i : Nat))) (fun i => xs[i]?)
def iAnyV (K : PySem.W.Frag) (i : Nat) (Y : List V → Nat → Hp → V → Hp → Prop) : TI := fun σ H R => ∃ (a : Addr) (xs : List V) (H0 : Hp), σ[i]? = some (some (.ref a)) ∧ SqA K H0 a xs ∧ Kp H0 H ∧ ∀ (J : It) (G : Hp → Prop), Walk J xs.length G (Y xs) → (∀ H', Kp H0 H' → G H') → R J H
section
variable {X : Cx} {e : Expr} {i : Nat} {p pos tpos : Pos}
theorem pi_enumV {elts : List Expr} {kk : Nat} (hg : Gl X "enumerate") (hm : X.mg "enumerate" = none) (he : PE X e (tVar i)) (hs : starEach [e] X.env = (false, eval e X.env) :: starEach [] X.env := by rfl) : PI X (.Tuple elts kk tpos) (.Call (.Name "enumerate" p) [e] [] pos) (iAnyV X.K i YEnum) := by
  refine ⟨fun pins s σ H R I h => ?_⟩
  obtain ⟨a, xs, H0, hv, c, kp, k⟩ := h
  rcases c with c | c
  · exact (pi_enum (elts := elts) (kk := kk) (tpos := tpos) (p := p) (pos := pos) hg hm (pa_cons he pa_nil hs) (hs.trans rfl)).run pins s σ H R I ⟨_, hv, a, xs, rfl, kp.seqL c, k _ _ walk_enum fun H' s => s.seqL c⟩
  · exact (pi_enumT (elts := elts) (kk := kk) (tpos := tpos) (p := p) (pos := pos) hg hm (pa_cons he pa_nil hs) (hs.trans rfl)).run pins s σ H R I ⟨_, hv, a, xs, rfl, kp.seqT c, k _ _ walk_enumT fun H' s => s.seqT c⟩
theorem pi_revV {tg : Expr} (hg : Gl X "reversed") (hm : X.mg "reversed" = none) (he : PE X e (tVar i)) (hs : starEach [e] X.env = (false, eval e X.env) :: starEach [] X.env := by rfl) : PI X tg (.Call (.Name "reversed" p) [e] [] pos) (iAnyV X.K i YRev) := by
  refine ⟨fun pins s σ H R I h => ?_⟩
  obtain ⟨a, xs, H0, hv, c, kp, k⟩ := h
  refine (RT.pi_revA (p := p) (pos := pos) hg hm he hs).run pins s σ H R I ⟨_, hv, a, xs, rfl, ?_⟩
  exact c.imp (fun c => ⟨kp.seqL c, k _ _ walk_rev fun H' s => s.seqL c⟩) fun c => ⟨kp.seqT c, k _ _ walk_revT fun H' s => s.seqT c⟩
theorem pi_seqV {tg : Expr} (he : PE X e (tVar i)) : PI X tg e (iAnyV X.K i YAt) := by
  refine ⟨fun pins s σ H R I h => ?_⟩
  obtain ⟨a, xs, H0, hv, c, kp, k⟩ := h
  rcases c with c | c
  · exact (pi_list (tg := tg) he).run pins s σ H R I ⟨_, hv, a, rfl, ⟨_, kp.seqL c⟩, k _ _ walk_list fun H' s => s.seqL c⟩
  · exact (pi_tup (tg := tg) he).run pins s σ H R I ⟨_, hv, a, rfl, ⟨_, kp.seqT c⟩, k _ _ walk_tup fun H' s => s.seqT c⟩
end
/-- tuple(xs), a list or a tuple: some tuple of the same -/
def rTupAny (K : PySem.W.Frag) : List V → Hp → VK → Prop := fun xs H Q => ∃ (p : Addr) (ys : List V), xs = [.ref p] ∧ SqA K H p ys ∧ ∀ l H', SqT K H' l ys → Same H H' → Q (.ref l) H'
theorem call_tuple_any {X : Cx} : CallR X (.type "tuple") (rTupAny X.K) := by
  intro pins s σ H xs us Q I r h
  obtain ⟨p, ys, e, h, k⟩ := h
  exact call_tuple_of pins s σ H xs us Q I r ⟨p, ys, e, h.imp (fun h => ⟨h, fun l nl => k l _ (SqT.of upd_same) (Same.new nl)⟩) fun h => ⟨h, k p H h (Same.refl' H)⟩⟩
/-- the same, where the written part is told -/
theorem call_tuple_anyK {X : Cx} {K : PySem.W.Frag} (e : X.K = K) : CallR X (.type "tuple") (rTupAny K) := by
  subst e
  exact call_tuple_any
/-- a comprehension without a trace over any walk -/
theorem lcp_it {J : It} {G : Hp → Prop} {D : Addr} {xs : List V} {g : L2.TG} {te : L2.TE} {vs : List Nat} {σ : L2.St} {H1 : Hp} {Qd : Hp → Prop} {f : V → V} (w : Walk J xs.length G (YAt xs)) (hn : H1 D = none) (hz : xs.length ≤ 1000000) (hG : ∀ H', Kp H1 H' → G H')
    (he : ∀ (i : Nat) (x : V) (H : Hp) (R : VK), xs[i]? = some x → Same H1 H → R (f x) H → g x (wipe σ vs) H fun σ2 H2 => wipe σ2 vs = wipe σ vs ∧ te σ2 H2 R) (hd : Qd (upd H1 D (.lst (xs.map f)))) :
    ∃ W : Nat → Nat → Hp → Prop, (∃ m, W 0 m (upd H1 D (.lst []))) ∧ ∀ i m H, W i m H →
      (J.stop i H ∧ Qd H) ∨ (J.go i H ∧ ∃ Nx : Hp → Prop, (∀ H', Nx H' → ∃ m', m' < m ∧ W (i + 1) m' H') ∧ ∀ x H', J.yld i H x H' → g x (wipe σ vs) H' fun σ2 H2 => wipe σ2 vs = wipe σ vs ∧ tYes σ2 H2 fun b H3 =>
        if b = true then te σ2 H3 fun y H4 => ∃ acc, H4 D = some (.lst acc) ∧ acc.length < sizeLine ∧ Nx (upd H4 D (.lst (acc ++ [y]))) else Nx H3) := by
  refine lc_it w (fun i H => H = upd H1 D (.lst ((xs.take i).map f))) rfl (fun i H _ e => by rw [e]; exact hG _ (Kp.new hn)) (fun i x H H' hi e y => ?_) (fun H e => ?_)
  · subst e
    obtain ⟨rfl, hx⟩ := y
    refine he i x _ _ hx (Y.Same.new hn) ⟨(xs.take i).map f, upd_same, ?_, ?_⟩
    · rw [List.length_map, List.length_take]
      have : sizeLine = 16777216 := sizeLine_eq
      omega
    · rw [upd_upd, take_next hx, List.map_append]
      rfl
  · rw [e, List.take_length]
    exact hd
end Y
set_option Elab.async false
set_option linter.all false
set_option maxRecDepth 100000
set_option maxHeartbeats 4000000
namespace PySem
open Sem (wp)
open AutoSeq1 (wpAny_loadPart')
abbrev kwS (k : Int) (t : Tok) : List (Str × Value) := [(Str.ofString "start", .int k t)]
abbrev itOb (T : String) (l : Addr) : Obj := { cls := .type T, data := .fields #[.ref l, .int 0 0] }
abbrev enOb (a : Addr) (k : Int) : Obj := { cls := .type "enumerate", data := .fields #[.none, .bool false, .ref a, rawInt k, .none, .none] }
theorem meets_enumST (l : Addr) (items : Array Value) (n : Nat) (dct : Option Addr) (sl : Array (Option Value)) (t : Tok) :
    Meets (Builtin.«enumerate.__new__» ⟨[.type "enumerate", .ref l], kwS 1 t⟩) (fun _ R s => s.heap.get? l = some { cls := .type "tuple", dict := dct, data := .seq items n, slots := sl } ∧
      R (.ok (.ret (.ref (s.heap.push (itOb "tuple_iterator" l)).objs.size))) { s with heap := (s.heap.push (itOb "tuple_iterator" l)).push (enOb s.heap.objs.size 1) }) :=
  .of_wp fun prog w A R s h => by
    obtain ⟨hp, g, d, tk, os⟩ := s; obtain ⟨hl, h⟩ := h
    have hsub := sub_enumerate
    have hL : Heap.IsTuple (Shared.heap ⟨hp, g, d, tk, os⟩) l items := ⟨_, hl, rfl, n, rfl⟩
    wp_walk using wpAny_loadPart' hl
    refine wpAny_stack_any fun st => wpAny_pure ?_
    split
    · rename_i c _ _ _ _ _
      cases (c == Value.type "enumerate")
      · wp_walk using wpAny_loadPart' hl, wpAny_pyIter_tuple hL
        exact ⟨_, rfl, h⟩
      · wp_walk using wpAny_loadPart' hl, wpAny_pyIter_tuple hL
        exact ⟨_, rfl, h⟩
    · wp_walk using wpAny_loadPart' hl, wpAny_pyIter_tuple hL
      exact ⟨_, rfl, h⟩
theorem meets_enumSL (l : Addr) (items : Array Value) (n : Nat) (dct : Option Addr) (sl : Array (Option Value)) (t : Tok) :
    Meets (Builtin.«enumerate.__new__» ⟨[.type "enumerate", .ref l], kwS 1 t⟩) (fun _ R s => s.heap.get? l = some { cls := .type "list", dict := dct, data := .seq items n, slots := sl } ∧
      R (.ok (.ret (.ref (s.heap.push (itOb "list_iterator" l)).objs.size))) { s with heap := (s.heap.push (itOb "list_iterator" l)).push (enOb s.heap.objs.size 1) }) :=
  .of_wp fun prog w A R s h => by
    obtain ⟨hp, g, d, tk, os⟩ := s; obtain ⟨hl, h⟩ := h
    have hsub := sub_enumerate
    have hL : Heap.IsList (Shared.heap ⟨hp, g, d, tk, os⟩) l items := ⟨_, hl, rfl, n, rfl⟩
    wp_walk using wpAny_loadPart' hl
    refine wpAny_stack_any fun st => wpAny_pure ?_
    split
    · rename_i c _ _ _ _ _
      cases (c == Value.type "enumerate")
      · wp_walk using wpAny_loadPart' hl, wpAny_pyIter_list hL
        exact ⟨_, rfl, h⟩
      · wp_walk using wpAny_loadPart' hl, wpAny_pyIter_list hL
        exact ⟨_, rfl, h⟩
    · wp_walk using wpAny_loadPart' hl, wpAny_pyIter_list hL
      exact ⟨_, rfl, h⟩
theorem tyCall_kw (l : Addr) (t : Tok) : checkTypeCall "enumerate" ⟨[.ref l], kwS 1 t⟩ = pure () := by kernel_rfl
theorem newCall_kw (l : Addr) (t : Tok) : checkBuiltinCall "enumerate.__new__" ⟨[.type "enumerate", .ref l], kwS 1 t⟩ = pure () := by kernel_rfl
theorem init_kw (o : Value) (l : Addr) (t : Tok) : argsOk "object.__init__" ⟨[o, .ref l], kwS 1 t⟩ := by
  unfold argsOk
  rw [signature?_of (id := "object.__init__") (n := ['_', '_', 't', 'i', 'n', 'i', '_', '_']) (o := ['t', 'c', 'e', 'j', 'b', 'o']) (by kernel_rfl) F.owner_object]
  kernel_rfl
section
variable {prog : Program} {w : World} {A : Around} {E : Value → Shared → Prop} {s : Shared}
theorem init_meets_kw (l : Addr) (t : Tok) (o : Value) : Meets (Builtin.«object.__init__» ⟨[o, .ref l], kwS 1 t⟩) (fun _ R s => s.TypeIs o "enumerate" ∧ R (.ok (.ret .none)) s) := by
  refine Meets.of_wp fun prog w A R s hs => ?_
  obtain ⟨hT, hq⟩ := hs
  have hl := F.called_enumerate.init.lookup
  have hm := F.called_enumerate.made
  have hne : (some "enumerate.__new__" != some "object.__new__") = true := by decide
  repeat (any_goals (first | assumption | wp_step))
  exact ⟨_, rfl, hq⟩
theorem call_enum_kw {l : Addr} {t : Tok} {S : Spec} {Q : Value → Shared → Prop} (g : Meets (Builtin.«enumerate.__new__» ⟨[.type "enumerate", .ref l], kwS 1 t⟩) S) (h : S A.in1 (wants (fun o s₁ => s₁.TypeIs o "enumerate" ∧ Q o s₁) E) s) :
    wpAny (model prog w) A (call (.type "enumerate") [.ref l] (kwS 1 t)) Q E s := by
  obtain ⟨c, tl, hmro⟩ := F.called_enumerate.mro
  have hmade := F.called_enumerate.made
  have hsub := F.called_enumerate.sub
  refine wpAny_call (codeAny_of_tree ?_)
  show wpAny _ _ (callAny (.type "enumerate") _) _ _ _
  refine wpAny_pure ⟨Code.quiet_builtin _ (by decide +kernel), codeAny_builtin F.entry_type_call ?_⟩
  rw [Around.under_plain (weight_type_call_type "enumerate" [.ref l] (kwS 1 t)) (units_type_call_type "enumerate" [.ref l] (kwS 1 t))]
  have h1 := F.called_enumerate.notType
  have h2 := F.called_enumerate.canCreate
  have hct := tyCall_kw l t
  have hcn := newCall_kw l t
  repeat (any_goals (first | assumption | wp_step))
  refine codeAny_mono (codeAny_call_builtin F.called_enumerate.plain F.entry_enumerate_new (wpAny_of_eq hcn (g prog w A.in1 _ s h))) fun r s₁ hr => ?_
  cases r with
  | error e => exact hr
  | ok fl =>
    cases fl with
    | ret obj =>
      obtain ⟨hT, hq⟩ := hr
      have hli := F.called_enumerate.init.lookup
      have hbi := F.called_enumerate.init.bind obj
      repeat (any_goals (first | assumption | wp_step))
      have step : codeAny (model prog w) A.in1 (.call (.builtin "object.__init__") ⟨[obj, .ref l], kwS 1 t⟩) (fun r s' => match r with | .ok (.ret v) => v = .none ∧ Q obj s' | .ok _ => False | .error e => E e s') s₁ :=
        codeAny_call_builtin F.called_enumerate.init.plain F.entry_object_init (F.called_enumerate.init.check _ _ _ _ _ _ _ _ hT (init_kw obj l t) (init_meets_kw l t obj prog w A.in1 (fun r s' => match r with | .ok (.ret v) => v = .none ∧ Q obj s' | .ok _ => False | .error e => E e s') s₁ ⟨hT, rfl, hq⟩))
      refine codeAny_mono step fun r₂ s₂ hr₂ => ?_
      cases r₂ with
      | error e => exact hr₂
      | ok fl₂ =>
        cases fl₂ with
        | ret r =>
          obtain ⟨rfl, hq⟩ := hr₂
          repeat (any_goals (first | assumption | wp_step))
        | _ => exact hr₂.elim
    | _ => exact hr.elim
end
end PySem
set_option Elab.async false
set_option linter.all false
set_option maxRecDepth 100000
set_option maxHeartbeats 4000000
namespace PySem
theorem Draws.later {prog : Program} {w : World} {A : Around} {it : Addr} {fp : List Addr} {n : Nat} {P : Nat → Value → Prop} {St : Nat → Heap → Prop} (D : Draws prog w A it fp n P St) : Draws prog w A it fp (n + 1) (fun i v => P (i - 1) v) (fun i h => 1 ≤ i ∧ St (i - 1) h) where
  live := fun _ _ st => D.live _ _ st.2
  frame := fun _ _ _ st k => ⟨st.1, D.frame _ _ _ st.2 k⟩
  item := fun i s Q E hi st hQ => D.item (i - 1) s Q E (by have := st.1; omega) st.2 fun x h' tk p st' sb => hQ x h' tk p ⟨by omega, by have := st.1; rw [show i + 1 - 1 = i - 1 + 1 by omega]; exact st'⟩ sb
  done := fun s Q E st hE => D.done s Q E (by simpa using st.2) hE
section
variable {M : Model} {A : Around} {E : Value → Shared → Prop} {s : Shared} {env : Env}
/-- a call of a built-in class with keywords -/
theorem callWith_tyKw {pos : Pos} {T : String} {e : Expr} {rest : List Expr} {kws : List Keyword} {Q : Value → Shared → Prop}
    (h : wpAny M A (spliced (backTo pos (starEach (e :: rest) env))) (fun vs s₁ => wpAny M A (evalAll ((backToKw pos (keywordEach kws env)).map (·.2)))
      (fun ks s₂ => wpAny M A (call (.type T) vs (((backToKw pos (keywordEach kws env)).filterMap (·.1)).zip ks)) Q E s₂) E s₁) E s)
    (he : backTo pos (starEach (e :: rest) env) = (false, eval e env) :: backTo pos (starEach rest env) := by rfl)
    (plain : (backTo pos (starEach (e :: rest) env)).any (·.1) = false := by rfl) (named : (backToKw pos (keywordEach kws env)).all (·.1.isSome) = true := by rfl) (none' : (backToKw pos (keywordEach kws env)).any (·.1.isNone) = false := by rfl) :
    wpAny M A (callWith pos (.type T) [] (backTo pos (starEach (e :: rest) env)) (backToKw pos (keywordEach kws env))) Q E s := by
  have args : wpAny M A (evalArgs (.type T) true (backTo pos (starEach (e :: rest) env)) (backToKw pos (keywordEach kws env))) (fun a s₁ => wpAny M A (call (.type T) ([] ++ a.pos) a.kw) Q E s₁) E s := by
    rw [he] at h ⊢
    exact PyProof.Rows.evalArgs_kwB named h
  unfold callWith
  refine wpAny_bind (wpAny_holding (wpAny_mono args (fun a s₁ h₁ => wpAny_bind (wpAny_standAt ?_)) fun _ _ z => z))
  simp only [plain, none', Bool.or_self]
  refine wpAny_bind (wpAny_pure (wpAny_bind (wpAny_mono h₁ (fun r s₂ hr => wpAny_bind (wpAny_holding (wpAny_point (wpAny_pure hr)))) fun _ _ z => z)))
end
end PySem
namespace L2
open PySem PySem.Spec PyProof.Rows
/-- the tuple at a, each item in a new pair, numbered from 1 on -/
def IteST (K : PySem.W.Frag) (a : Addr) : It :=
  ⟨fun i H => ∃ (xs : List V) (x : V), SqT K H a xs ∧ xs[i]? = some x, fun i H v H' => ∃ T x, v = .ref T ∧ H T = none ∧ H' = upd H T (.tup [.int ((i + 1 : Nat) : Int), x]) ∧ ∀ xs, SqT K H a xs → xs[i]? = some x, fun i H => ∃ xs : List V, SqT K H a xs ∧ xs.length = i⟩
theorem turn_enumST {P : Program} {w : World} {K : PySem.W.Frag} {elts : List Expr} {kk : Nat} {tpos : Pos} (a e it : Addr) :
    Turn P w K (.Tuple elts kk tpos) (IteST K a) [e, it] e (fun i h => (∃ old, IsEnum h e it ((i + 1 : Nat) : Int) old) ∧ h.IsTupleIter it a i ∧ e ≠ it ∧ a ≠ it ∧ a ≠ e) where
  mem := by simp
  obj := fun i h st b hb => by
    obtain ⟨⟨old, he⟩, ⟨o, ho, hc, hd⟩, _⟩ := st
    rcases (show b = e ∨ b = it by simpa using hb) with z | z
    · rw [z]; exact ⟨_, he, fun v q => nomatch q⟩
    · rw [z]; exact ⟨o, ho, fun v q => by rw [hd] at q; cases q⟩
  keep := fun i h h' st k => let ⟨⟨old, he⟩, ⟨o, ho, hr⟩, hne⟩ := st; ⟨⟨old, k e (by simp) _ he⟩, ⟨o, k it (by simp) _ ho, hr⟩, hne⟩
  item := by
    intro X hP hw hK hc i pins s σ H E I hf st hg
    subst hP hw hK
    obtain ⟨⟨old, he⟩, hit, hne, hai, hae⟩ := st
    obtain ⟨xs, x, hq, hx⟩ := hg
    obtain ⟨its, rv, p, hz⟩ := I.tuple hq
    obtain ⟨u, hu, ru⟩ := rv.get hx
    have hel : e < s.heap.objs.size := Heap.lt_size he
    have hil : it < s.heap.objs.size := by obtain ⟨_, q, _⟩ := hit; exact Heap.lt_size q
    have hu' : its.toArray[i]? = some u := by simpa using hu
    have hlt : i < its.toArray.size := by
      rcases Nat.lt_or_ge i its.toArray.size with h | h
      · exact h
      · rw [Array.getElem?_eq_none h] at hu'; cases hu'
    refine wpAny_pyNext_enum_itemD (i := i + 1) (Draws.tuple (A := X.A.in1) (I.ok.hd hc) it a hai its.toArray).later he ⟨by omega, hit, p⟩ (by omega) hne (by simp [hne, Ne.symm hae]) fun v h' tk hv ho hst hT hsz hk => ?_
    obtain rfl : v = u := by
      rw [show i + 1 - 1 = i by omega, hu'] at hv
      exact (Option.some.inj hv).symm
    refine ⟨_, rfl, wpAny_letOwnedTupleGo_enum (s := { s with heap := h', toks := tk + 1 }) ho fun h'' he' sb => ?_⟩
    have hT2 : h''.get? s.heap.objs.size = some { cls := .type "tuple", data := .seq #[.int ((i + 1 : Nat) : Int) tk, v] } := (sb.2 _ (Nat.ne_of_gt hel)).trans hT
    have new : ObjOk X.prog X.w (upd H s.heap.objs.size (.tup [.int ((i + 1 : Nat) : Int), x])) h'' s.heap.objs.size (.tup [.int ((i + 1 : Nat) : Int), x]) :=
      ⟨by show 2 ≤ sizeLine; decide, [.int ((i + 1 : Nat) : Int) tk, v], .cons ⟨_, rfl⟩ (.cons ru .nil), ⟨_, hT2, rfl, _, rfl⟩⟩
    have I1 : Inv X pins σ (upd H s.heap.objs.size (.tup [.int ((i + 1 : Nat) : Int), x])) { s with heap := h'', toks := tk + 1 } :=
      I.turnedNew (ch := [e, it]) (fun b ob hb q => (sb.2 b (fun z => hb (by simp [z]))).trans (hk b ob (fun z => hb (by simp [z])) (fun z => hb (by simp [z])) q)) hf (Nat.le_refl _) new
    refine ⟨.ref s.heap.objs.size, _, I1, rfl, ⟨_, x, rfl, I.hok.fresh (Nat.le_refl _), rfl, fun ys hy => by rw [I.tuple_inj hy hq]; exact hx⟩, ⟨⟨v, ?_⟩, ?_, hne, hai, hae⟩, fun b hb => ?_⟩
    · have e1 : ((i + 1 + 1 : Nat) : Int) = ((i + 1 : Nat) : Int) + 1 := by omega
      rw [e1]; exact he'
    · obtain ⟨o, ho2, hr⟩ := hst.2.1
      exact ⟨o, (sb.2 it (Ne.symm hne)).trans ho2, by rw [show i + 1 + 1 - 1 = i + 1 by omega] at hr; exact hr⟩
    · have hb' : b < s.heap.objs.size := by
        rcases (show b = e ∨ b = it by simpa using hb) with z | z
        · rw [z]; exact hel
        · rw [z]; exact hil
      rw [upd_ne (Nat.ne_of_lt hb')]
      exact (hf b hb).1
  done := by
    intro X hP hw hK hc i pins s σ H E I hf st hg
    subst hP hw hK
    obtain ⟨⟨old, he⟩, hit, hne, hai, hae⟩ := st
    obtain ⟨xs, hq, hx⟩ := hg
    obtain ⟨its, rv, p, hz⟩ := I.tuple hq
    obtain ⟨f0, f1, f2, f3, f4, f5⟩ := hf it (by simp)
    have hl := rv.length
    have hi : i = its.toArray.size := by rw [List.size_toArray]; omega
    subst hi
    exact wpAny_pyNext_enum_endD (Draws.tuple (A := X.A.in1) (I.ok.hd hc) it a hai its.toArray) he ⟨hit, p⟩ fun h' eb => ⟨rfl, I.turned (t' := s.toks) (fun b o hb q => eb b o hb q) f0 f1 f3 f4 f5⟩
  self := fun A i s Q E st h => let ⟨⟨_, he⟩, _⟩ := st; wpAny_pyIter_enum he h
/-- the list at a, each item in a new pair, numbered from 1 on -/
def IteSL (K : PySem.W.Frag) (a : Addr) : It :=
  ⟨fun i H => ∃ (xs : List V) (x : V), SqL K H a xs ∧ xs[i]? = some x, fun i H v H' => ∃ T x, v = .ref T ∧ H T = none ∧ H' = upd H T (.tup [.int ((i + 1 : Nat) : Int), x]) ∧ ∀ xs, SqL K H a xs → xs[i]? = some x, fun i H => ∃ xs : List V, SqL K H a xs ∧ xs.length = i⟩
theorem turn_enumSL {P : Program} {w : World} {K : PySem.W.Frag} {elts : List Expr} {kk : Nat} {tpos : Pos} (a e it : Addr) :
    Turn P w K (.Tuple elts kk tpos) (IteSL K a) [e, it] e (fun i h => (∃ old, IsEnum h e it ((i + 1 : Nat) : Int) old) ∧ h.IsListIter it a i ∧ e ≠ it ∧ a ≠ it ∧ a ≠ e) where
  mem := by simp
  obj := fun i h st b hb => by
    obtain ⟨⟨old, he⟩, ⟨o, ho, hc, hd⟩, _⟩ := st
    rcases (show b = e ∨ b = it by simpa using hb) with z | z
    · rw [z]; exact ⟨_, he, fun v q => nomatch q⟩
    · rw [z]; exact ⟨o, ho, fun v q => by rw [hd] at q; cases q⟩
  keep := fun i h h' st k => let ⟨⟨old, he⟩, ⟨o, ho, hr⟩, hne⟩ := st; ⟨⟨old, k e (by simp) _ he⟩, ⟨o, k it (by simp) _ ho, hr⟩, hne⟩
  item := by
    intro X hP hw hK hc i pins s σ H E I hf st hg
    subst hP hw hK
    obtain ⟨⟨old, he⟩, hit, hne, hai, hae⟩ := st
    obtain ⟨xs, x, hq, hx⟩ := hg
    obtain ⟨its, rv, p, hz⟩ := I.list hq
    obtain ⟨u, hu, ru⟩ := rv.get hx
    have hel : e < s.heap.objs.size := Heap.lt_size he
    have hil : it < s.heap.objs.size := by obtain ⟨_, q, _⟩ := hit; exact Heap.lt_size q
    have hu' : its.toArray[i]? = some u := by simpa using hu
    have hlt : i < its.toArray.size := by
      rcases Nat.lt_or_ge i its.toArray.size with h | h
      · exact h
      · rw [Array.getElem?_eq_none h] at hu'; cases hu'
    refine wpAny_pyNext_enum_itemD (i := i + 1) (Draws.list (A := X.A.in1) (I.ok.hd hc) it a hai its.toArray).later he ⟨by omega, hit, p.isList⟩ (by omega) hne (by simp [hne, Ne.symm hae]) fun v h' tk hv ho hst hT hsz hk => ?_
    obtain rfl : v = u := by
      rw [show i + 1 - 1 = i by omega, hu'] at hv
      exact (Option.some.inj hv).symm
    refine ⟨_, rfl, wpAny_letOwnedTupleGo_enum (s := { s with heap := h', toks := tk + 1 }) ho fun h'' he' sb => ?_⟩
    have hT2 : h''.get? s.heap.objs.size = some { cls := .type "tuple", data := .seq #[.int ((i + 1 : Nat) : Int) tk, v] } := (sb.2 _ (Nat.ne_of_gt hel)).trans hT
    have new : ObjOk X.prog X.w (upd H s.heap.objs.size (.tup [.int ((i + 1 : Nat) : Int), x])) h'' s.heap.objs.size (.tup [.int ((i + 1 : Nat) : Int), x]) :=
      ⟨by show 2 ≤ sizeLine; decide, [.int ((i + 1 : Nat) : Int) tk, v], .cons ⟨_, rfl⟩ (.cons ru .nil), ⟨_, hT2, rfl, _, rfl⟩⟩
    have I1 : Inv X pins σ (upd H s.heap.objs.size (.tup [.int ((i + 1 : Nat) : Int), x])) { s with heap := h'', toks := tk + 1 } :=
      I.turnedNew (ch := [e, it]) (fun b ob hb q => (sb.2 b (fun z => hb (by simp [z]))).trans (hk b ob (fun z => hb (by simp [z])) (fun z => hb (by simp [z])) q)) hf (Nat.le_refl _) new
    refine ⟨.ref s.heap.objs.size, _, I1, rfl, ⟨_, x, rfl, I.hok.fresh (Nat.le_refl _), rfl, fun ys hy => by rw [I.list_inj hy hq]; exact hx⟩, ⟨⟨v, ?_⟩, ?_, hne, hai, hae⟩, fun b hb => ?_⟩
    · have e1 : ((i + 1 + 1 : Nat) : Int) = ((i + 1 : Nat) : Int) + 1 := by omega
      rw [e1]; exact he'
    · obtain ⟨o, ho2, hr⟩ := hst.2.1
      exact ⟨o, (sb.2 it (Ne.symm hne)).trans ho2, by rw [show i + 1 + 1 - 1 = i + 1 by omega] at hr; exact hr⟩
    · have hb' : b < s.heap.objs.size := by
        rcases (show b = e ∨ b = it by simpa using hb) with z | z
        · rw [z]; exact hel
        · rw [z]; exact hil
      rw [upd_ne (Nat.ne_of_lt hb')]
      exact (hf b hb).1
  done := by
    intro X hP hw hK hc i pins s σ H E I hf st hg
    subst hP hw hK
    obtain ⟨⟨old, he⟩, hit, hne, hai, hae⟩ := st
    obtain ⟨xs, hq, hx⟩ := hg
    obtain ⟨its, rv, p, hz⟩ := I.list hq
    obtain ⟨f0, f1, f2, f3, f4, f5⟩ := hf it (by simp)
    have hl := rv.length
    have hi : i = its.toArray.size := by rw [List.size_toArray]; omega
    subst hi
    exact wpAny_pyNext_enum_endD (Draws.list (A := X.A.in1) (I.ok.hd hc) it a hai its.toArray) he ⟨hit, p.isList⟩ fun h' eb => ⟨rfl, I.turned (t' := s.toks) (fun b o hb q => eb b o hb q) f0 f1 f3 f4 f5⟩
  self := fun A i s Q E st h => let ⟨⟨_, he⟩, _⟩ := st; wpAny_pyIter_enum he h
theorem walk_enumST {K : PySem.W.Frag} {a : Addr} {xs : List V} : Walk (IteST K a) xs.length (fun H => SqT K H a xs) (YPair (fun i => some (.int ((i + 1 : Nat) : Int))) (fun i => xs[i]?)) := by
  refine ⟨fun i _ hi q => ⟨xs, xs[i], q, by simp [hi]⟩, fun _ q => ⟨xs, q, rfl⟩, fun i H v H' _ q y => ?_⟩
  obtain ⟨T, x, e1, e2, e3, h⟩ := y
  exact ⟨T, _, x, e1, e2, e3, rfl, h xs q⟩
theorem walk_enumSL {K : PySem.W.Frag} {a : Addr} {xs : List V} : Walk (IteSL K a) xs.length (fun H => SqL K H a xs) (YPair (fun i => some (.int ((i + 1 : Nat) : Int))) (fun i => xs[i]?)) := by
  refine ⟨fun i _ hi q => ⟨xs, xs[i], q, by simp [hi]⟩, fun _ q => ⟨xs, q, rfl⟩, fun i H v H' _ q y => ?_⟩
  obtain ⟨T, x, e1, e2, e3, h⟩ := y
  exact ⟨T, _, x, e1, e2, e3, rfl, h xs q⟩
end L2
namespace Y
open PySem PySem.Spec PyProof.Rows L2
def YEnumS (xs : List V) : Nat → Hp → V → Hp → Prop := YPair (fun i => some (.int ((i + 1 : Nat) : Int))) (fun i => xs[i]?)
/-- enumerate(x, start=1), x a variable that holds a list or a tuple -/
theorem pi_enumS {X : Cx} {e : Expr} {i : Nat} {p pos tpos kp cp : Pos} {j : Nat} {elts : List Expr} {kk : Nat} (hg : Gl X "enumerate") (hm : X.mg "enumerate" = none) (he : PE X e (tVar i)) (hs : starEach [e] X.env = (false, eval e X.env) :: starEach [] X.env := by rfl) :
    PI X (.Tuple elts kk tpos) (.Call (.Name "enumerate" p) [e] [⟨some "start", .Constant (.int 1) j cp, kp⟩] pos) (iAnyV X.K i YEnumS) := by
  refine ⟨fun pins s σ H R I h => ?_⟩
  obtain ⟨a, xs, H0, hv, c, kpp, k⟩ := h
  have ha : PA X [e] (tCons (tVar i) tNil) := pa_cons he pa_nil hs
  have hk : PK X [⟨some "start", .Constant (.int 1) j cp, kp⟩] (tCons (tC (.int 1)) tNil) := pk_cons pe_int pk_nil
  refine wpAny_Call_Name_kw (ld_blt I hg hm boot_enumerate (callWith_tyKw (thn (ha.run pos pins s σ H (fun vs H1 => vs = [.ref a] ∧ H1 = H) I ⟨_, hv, rfl, rfl⟩) fun us s1 ⟨vs, H1, I1, r1, e1, e2⟩ => ?_) (by rw [hs]; rfl) (by rw [hs]; rfl)))
  subst e1; subst e2
  refine thn (hk.run pos pins s1 σ H1 (fun ws H2 => ws = [.int 1] ∧ H2 = H1) I1 ⟨rfl, rfl⟩) fun ws s2 ⟨ks, H2, I2, r2, e3, e4⟩ => ?_
  subst e3; subst e4
  obtain ⟨u, rfl, ru⟩ := vals1 r1
  obtain ⟨u2, rfl, t, rfl⟩ := vals1 r2
  cases ru
  show wpAny _ _ (call (.type "enumerate") [.ref a] (kwS 1 t)) _ _ _
  have lower : ∀ {T : String} (hT : T = "list_iterator" ∨ T = "tuple_iterator"), a < s2.heap.objs.size → (s2.heap.push (itOb T a)).objs.size = s2.heap.objs.size + 1 := fun _ _ => Heap.size_push ..
  rcases c with c | c
  · obtain ⟨its, rv, pl, hz⟩ := I2.list (kpp.seqL c)
    obtain ⟨⟨cl, dct, dt, sl⟩, hl, hc, n, hd⟩ := pl.isList
    replace hc : cl = .type "list" := hc
    replace hd : dt = .seq its.toArray n := hd
    subst hc hd
    have hal : a < s2.heap.objs.size := Heap.lt_size hl
    have z1 := lower (.inl rfl) hal
    refine call_enum_kw (meets_enumSL a its.toArray n dct sl t) ⟨hl, ?_⟩
    show _ ∧ _
    have en : ((s2.heap.push (itOb "list_iterator" a)).push (enOb s2.heap.objs.size 1)).get? (s2.heap.objs.size + 1) = some (enOb s2.heap.objs.size 1) := by
      have q := Heap.get?_push_size (s2.heap.push (itOb "list_iterator" a)) (o := enOb s2.heap.objs.size 1) rfl
      rw [z1] at q; exact q
    have hk2 : ∀ b o, s2.heap.get? b = some o → ((s2.heap.push (itOb "list_iterator" a)).push (enOb s2.heap.objs.size 1)).get? b = some o := fun b o z => Heap.get?_push_of_some _ (Heap.get?_push_of_some _ z)
    have itr : ((s2.heap.push (itOb "list_iterator" a)).push (enOb s2.heap.objs.size 1)).get? s2.heap.objs.size = some (itOb "list_iterator" a) := Heap.get?_push_of_some _ (Heap.get?_push_size _ rfl)
    rw [z1]
    refine ⟨⟨_, en, rfl⟩, wpAny_pyIter_enum en ?_⟩
    have I3 : Inv X pins σ H2 { s2 with heap := (s2.heap.push (itOb "list_iterator" a)).push (enOb s2.heap.objs.size 1) } := I2.kept (t' := s2.toks) hk2
    refine ⟨s2.heap.objs.size + 1, [s2.heap.objs.size + 1, s2.heap.objs.size], _, _, H2, rfl, I3, turn_enumSL a (s2.heap.objs.size + 1) s2.heap.objs.size, ⟨⟨.none, en⟩, ⟨_, itr, rfl, rfl⟩, Nat.succ_ne_self _, Nat.ne_of_lt hal, Nat.ne_of_lt (Nat.lt_succ_of_lt hal)⟩, fun b hb => ?_, k _ _ walk_enumSL fun H' s => s.seqL c⟩
    have hle : s2.heap.objs.size ≤ b := by
      rcases (show b = s2.heap.objs.size + 1 ∨ b = s2.heap.objs.size by simpa using hb) with z | z
      · rw [z]; exact Nat.le_add_right _ _
      · rw [z]; exact Nat.le_refl _
    exact I2.fpOk hle (I2.hok.fresh hle)
  · obtain ⟨its, rv, pl, hz⟩ := I2.tuple (kpp.seqT c)
    obtain ⟨⟨cl, dct, dt, sl⟩, hl, hc, n, hd⟩ := pl
    replace hc : cl = .type "tuple" := hc
    replace hd : dt = .seq its.toArray n := hd
    subst hc hd
    have hal : a < s2.heap.objs.size := Heap.lt_size hl
    have z1 := lower (.inr rfl) hal
    refine call_enum_kw (meets_enumST a its.toArray n dct sl t) ⟨hl, ?_⟩
    show _ ∧ _
    have en : ((s2.heap.push (itOb "tuple_iterator" a)).push (enOb s2.heap.objs.size 1)).get? (s2.heap.objs.size + 1) = some (enOb s2.heap.objs.size 1) := by
      have q := Heap.get?_push_size (s2.heap.push (itOb "tuple_iterator" a)) (o := enOb s2.heap.objs.size 1) rfl
      rw [z1] at q; exact q
    have hk2 : ∀ b o, s2.heap.get? b = some o → ((s2.heap.push (itOb "tuple_iterator" a)).push (enOb s2.heap.objs.size 1)).get? b = some o := fun b o z => Heap.get?_push_of_some _ (Heap.get?_push_of_some _ z)
    have itr : ((s2.heap.push (itOb "tuple_iterator" a)).push (enOb s2.heap.objs.size 1)).get? s2.heap.objs.size = some (itOb "tuple_iterator" a) := Heap.get?_push_of_some _ (Heap.get?_push_size _ rfl)
    rw [z1]
    refine ⟨⟨_, en, rfl⟩, wpAny_pyIter_enum en ?_⟩
    have I3 : Inv X pins σ H2 { s2 with heap := (s2.heap.push (itOb "tuple_iterator" a)).push (enOb s2.heap.objs.size 1) } := I2.kept (t' := s2.toks) hk2
    refine ⟨s2.heap.objs.size + 1, [s2.heap.objs.size + 1, s2.heap.objs.size], _, _, H2, rfl, I3, turn_enumST a (s2.heap.objs.size + 1) s2.heap.objs.size, ⟨⟨.none, en⟩, ⟨_, itr, rfl, rfl⟩, Nat.succ_ne_self _, Nat.ne_of_lt hal, Nat.ne_of_lt (Nat.lt_succ_of_lt hal)⟩, fun b hb => ?_, k _ _ walk_enumST fun H' s => s.seqT c⟩
    have hle : s2.heap.objs.size ≤ b := by
      rcases (show b = s2.heap.objs.size + 1 ∨ b = s2.heap.objs.size by simpa using hb) with z | z
      · rw [z]; exact Nat.le_add_right _ _
      · rw [z]; exact Nat.le_refl _
    exact I2.fpOk hle (I2.hok.fresh hle)
end Y
set_option Elab.async false
set_option linter.all false
set_option maxRecDepth 100000
set_option maxHeartbeats 2000000
namespace Y
open PySem L2
/-! ### a block within a block -/
theorem relabel_at {env : Env} : ∀ {names : List (Str × NameKind)} {x : Str} {k : NameKind}, names.lookup x = some k → (k = .cell ∨ k = .free) →
    (names.map fun (n, k) => if (k == NameKind.free && env.scope.kind == .function && env.kindOf n == some .cell) then (n, NameKind.cell) else (n, k)).lookup x = some .cell ∨
    (names.map fun (n, k) => if (k == NameKind.free && env.scope.kind == .function && env.kindOf n == some .cell) then (n, NameKind.cell) else (n, k)).lookup x = some .free
  | [], _, _, h, _ => by simp at h
  | (n, k0) :: r, x, k, h, hk => by
    have ih : List.lookup x r = some k → _ := fun e => relabel_at (env := env) (names := r) (x := x) (k := k) e hk
    have key : ∀ k1 : NameKind, (x = n → k1 = .cell ∨ k1 = .free) → ∀ m : List (Str × NameKind), (x ≠ n → m.lookup x = some .cell ∨ m.lookup x = some .free) → ((n, k1) :: m).lookup x = some .cell ∨ ((n, k1) :: m).lookup x = some .free := fun k1 h1 m h2 => by
      by_cases e : x = n
      · subst e
        rcases h1 rfl with rfl | rfl
        · exact .inl (by simp)
        · exact .inr (by simp)
      · have hx : (x == n) = false := by simpa using e
        simp only [List.lookup_cons, hx]
        exact h2 e
    have at0 : x = n → k0 = .cell ∨ k0 = .free := fun e => by
      subst e
      have h0 : k0 = k := by simpa using h
      rw [h0]
      exact hk
    have rest : x ≠ n → List.lookup x r = some k := fun e => by
      have hx : (x == n) = false := by simpa using e
      rw [List.lookup_cons, hx] at h
      exact h
    by_cases c : (k0 == NameKind.free && env.scope.kind == .function && env.kindOf n == some .cell) = true
    · rw [List.map_cons, show (match (n, k0) with | (n, k) => if (k == NameKind.free && env.scope.kind == .function && env.kindOf n == some .cell) then (n, NameKind.cell) else (n, k)) = (n, NameKind.cell) from if_pos c]
      exact key _ (fun _ => .inl rfl) _ fun e => ih (rest e)
    · rw [List.map_cons, show (match (n, k0) with | (n, k) => if (k == NameKind.free && env.scope.kind == .function && env.kindOf n == some .cell) then (n, NameKind.cell) else (n, k)) = (n, k0) from if_neg c]
      exact key _ at0 _ fun e => ih (rest e)
theorem blkOk_re {N : List Str} {sc0 scope : Scope} {own : List (Str × Nat)} {env : Env} (h : blkC N sc0 scope own = true) : BlkOk N (relabel sc0 env) scope own := by
  obtain ⟨h1, h2, h3, h4, h5⟩ := blkOk_by h
  refine ⟨h1, h2, h3, fun y hy e => ?_, h5⟩
  rcases h4 y hy e with c | c
  · exact relabel_at c (.inl rfl)
  · exact relabel_at c (.inr rfl)
end Y
set_option Elab.async false
set_option linter.all false
set_option maxRecDepth 100000
set_option maxHeartbeats 2000000
namespace Y
open PySem PySem.Spec PyProof.Rows L2
/-! ### own errors: made with one, two or three fields by their own first method -/
structure XcC (K : PySem.W.Frag) (C : Addr) : Prop where
  o : OexC K C
  x : XfC K C
  sf : PySem.W.subIn K (.ref C) (.ref C) = some true
  isC : PySem.W.isClsIn K C = true
/-- the promise of such a method: each field is kept under its name -/
def spX1 (C : Addr) (f : Str) : Sp := fun vs H Q _ => ∃ (a : Addr) (v : V), vs = [.ref a, v] ∧ H a = some (exo a C none) ∧
  ∀ dx, H dx = none → dx ≠ a → Q .non (upd (upd H dx (exd dx [(f, v)])) a (exo a C (some dx)))
/-- what C(v) asks, when C's first method keeps spX1 -/
theorem mk1 {C : Addr} {f : Str} {v : V} {H1 : Hp} {Q : XK} (h : ∀ (d : Addr) (H' : Hp), Same H1 H' → H1 d = none → H' d = some (.xd [(f, v)]) → Q (.ref C) (some d) H') :
    ([v] : List V).length ≤ 1000 ∧ ∀ a, H1 a = none → spX1 C f (.ref a :: ([v] ++ [])) (upd H1 a (exo a C none))
      (fun u H2 => u = .non ∧ ∃ (d : Addr) (fs : List (Str × V)), H2 a = some (exo a C (some d)) ∧ H2 d = some (exd d fs) ∧ H1 d = none ∧ Q (.ref C) (some d) (upd (del H2 a) d (.xd fs))) (fun _ _ _ => False) := by
  refine ⟨by show 1 ≤ 1000; decide, fun a ha => ⟨a, v, rfl, upd_same, fun dx hd hne => ⟨rfl, dx, [(f, v)], upd_same, by rw [upd_ne hne]; exact upd_same, by rw [upd_ne hne] at hd; exact hd, ?_⟩⟩⟩
  have hd1 : H1 dx = none := by rw [upd_ne hne] at hd; exact hd
  refine h dx _ (fun b o e => ?_) hd1 upd_same
  have n1 : b ≠ dx := ne_of_none e hd1
  have n2 : b ≠ a := ne_of_none e ha
  rw [upd_ne n1, del_ne n2, upd_ne n2, upd_ne n1, upd_ne n2]
  exact e
/-! ### isinstance of the caught error, which has fields -/
structure XiC (K : PySem.W.Frag) (C : Addr) : Prop where
  k0 : (PySem.W.clsIn K C).isSome = true
  k4 : PySem.W.findIn K (.ref C) "__getattribute__" = some (some (.builtin "BaseException.__getattribute__"))
  k5 : PySem.W.findIn K (.ref C) "__getattr__" = some none
  k6 : PySem.W.subIn K (.ref C) (.type "BaseException") = some true
  k7 : PySem.W.findIn K (.ref C) "__class__" = some (some (.builtin "object.__class__"))
  k8 : PySem.W.specialIn K (.builtin "object.__class__") "__get__" = some (some (.builtin "getset_descriptor.__get__"))
  k9 : PySem.W.takesIn K (.builtin "object.__class__") = some true
  k10 : PySem.W.mroIn K C (.type "object") = some true
def rIsX (K : PySem.W.Frag) (C a : Addr) (cls : Value) (d : Option Addr) : List V → Hp → VK → Prop := fun xs H Q => ∃ (c : V) (u : Value) (b : Bool) (dd : Addr) (fs : List (Str × V)), xs = [.ref a, c] ∧ ClsV c u ∧ cls = .ref C ∧ d = some dd ∧ H dd = some (.xd fs) ∧
  PySem.W.kitOne K (.ref C) u = some b ∧ Q (.bl b) H
theorem call_isX {X : Cx} {a C : Addr} {cls : Value} {d : Option Addr} {oe : Obj} {pn : List (Addr × Obj)} (T : XiC X.K C) (hz : Zc cls d oe) (hf : ∃ vs, oe.data = .fields vs) :
    CallR (X.suite a ((a, oe) :: pn)) (.builtin "isinstance") (rIsX X.K C a cls d) := by
  intro pins s σ H xs us Q I r h
  obtain ⟨c, u, b, dd, fs, rfl, k, rfl, rfl, ea, e, q⟩ := h
  cases r with
  | cons rx rr =>
    cases rr with
    | cons rt rr =>
      cases rr
      cases rx
      cases k.eq rt
      have hpin := (I.pin (a, oe) (List.mem_append.mpr (Or.inl List.mem_cons_self))).1
      obtain ⟨mA, hns, _⟩ := (show ObjOk X.prog X.w H s.heap dd (.xd fs) from I.hok dd _ ea)
      obtain ⟨od, ho, _⟩ := lookIn_ns hns
      obtain ⟨vs, hv⟩ := hf
      have J : PySem.W.InstAt s.heap a oe C (some od) := ⟨hpin, hz.1, by unfold PySem.W.notCls; rw [hv] <;> rfl, by rw [hz.2]; exact ho⟩
      exact PySem.W.kia_one (PySem.W.kitx_exc T.k0 T.k4 T.k5 T.k6 T.k7 T.k8 T.k9 T.k10) I.kIn J e (fun w => nomatch w) fun tk => ⟨.bl b, H, I.kept (t' := tk) fun _ _ w => w, rfl, q⟩
end Y
set_option Elab.async false
set_option linter.all false
set_option maxRecDepth 100000
set_option maxHeartbeats 2000000
/-! repr() of any data of None, bools, ints, texts, lists, tuples, empty dicts, where no repr is under way -/
namespace Y
open PySem PySem.Spec PyProof.Rows L2
mutual
/-- x is the data d: an empty dict may stand in it, too -/
inductive Dq (K : PySem.W.Frag) (H : Hp) : PyData → V → Prop
  | non : Dq K H .none .non
  | bl (b : Bool) : Dq K H (.bool b) (.bl b)
  | int (i : Int) : Dq K H (.int i) (.int i)
  | str (x : Str) : Dq K H (.str x) (.str x)
  | lst {ds : List PyData} {a : Addr} {xs : List V} : SqL K H a xs → Dqs K H ds xs → Dq K H (.list ds) (.ref a)
  | tup {ds : List PyData} {a : Addr} {xs : List V} : SqT K H a xs → Dqs K H ds xs → Dq K H (.tuple ds) (.ref a)
  | dct {a : Addr} : H a = some (.dK []) → Dq K H (.dict []) (.ref a)
inductive Dqs (K : PySem.W.Frag) (H : Hp) : List PyData → List V → Prop
  | nil : Dqs K H [] []
  | cons {d : PyData} {ds : List PyData} {v : V} {vs : List V} : Dq K H d v → Dqs K H ds vs → Dqs K H (d :: ds) (v :: vs)
end
mutual
/-- no list stands in it -/
def unlisted : PyData → Bool
  | .list _ => false
  | .tuple xs => unlisteds xs
  | _ => true
def unlisteds : List PyData → Bool
  | [] => true
  | x :: xs => unlisted x && unlisteds xs
end
section
variable {X : Cx} {pins : List (Addr × Obj)} {σ : L2.St} {H : Hp} {s : Shared}
mutual
theorem Dq.look (I : Inv X pins σ H s) : ∀ (d : PyData) (v : V) (u : Value), Dq X.K H d v → RelV v u → ∃ as, Reads s.heap u d as ∧ (unlisted d = true → sysModules ∉ as)
  | .none, _, _, h, r => by cases h; cases r; exact ⟨_, .none, fun _ z => by cases z⟩
  | .bool b, _, _, h, r => by cases h; cases r; exact ⟨_, .bool b, fun _ z => by cases z⟩
  | .int i, _, _, h, r => by cases h; obtain ⟨t, rfl⟩ := r; exact ⟨_, .int i t, fun _ z => by cases z⟩
  | .str x, _, _, h, r => by cases h; obtain ⟨t, rfl⟩ := r; exact ⟨_, .str x t, fun _ z => by cases z⟩
  | .list ds, _, _, h, r => by
    cases h with
    | lst hs ha =>
      cases r
      obtain ⟨its, rv, ⟨o, n, ho, hc, _, hd⟩, _⟩ := I.list hs
      obtain ⟨as, hr, _⟩ := Dqs.look I ds _ its ha rv
      exact ⟨_, .list ho hc hd hr, fun z => by simp [unlisted] at z⟩
  | .tuple ds, _, _, h, r => by
    cases h with
    | tup hs ha =>
      cases r
      obtain ⟨its, rv, ⟨o, ho, hc, n, hd⟩, _⟩ := I.tuple hs
      obtain ⟨as, hr, hn⟩ := Dqs.look I ds _ its ha rv
      exact ⟨_, .tuple ho hc hd hr, fun z => hn (by simpa [unlisted] using z)⟩
  | .dict kvs, _, _, h, r => by
    cases h with
    | @dct a ea =>
      cases r
      obtain ⟨_, na, vs, kv, o, es, ep, ho, ex, hd, _, he, _⟩ := (show ObjOk X.prog X.w H s.heap a (.dK []) from I.hok a _ ea)
      cases kv
      have e0 : es.toList = [] := by
        generalize es.toList = l at he
        cases he
        rfl
      exact ⟨_, .dict ho ex.1 hd (by rw [e0]; exact .nil) (by rw [e0]; exact .nil), fun _ z => by simp at z; rw [z] at na; simp at na⟩
theorem Dqs.look (I : Inv X pins σ H s) : ∀ (ds : List PyData) (vs : List V) (us : List Value), Dqs X.K H ds vs → Vals vs us → ∃ as, ReadsAll s.heap us ds as ∧ (unlisteds ds = true → sysModules ∉ as)
  | [], _, _, h, r => by cases h; cases r; exact ⟨_, .nil, fun _ z => by cases z⟩
  | d :: ds, _, _, h, r => by
    cases h with
    | cons h1 h2 =>
      cases r with
      | cons r1 r2 =>
        obtain ⟨as, q1, n1⟩ := Dq.look I d _ _ h1 r1
        obtain ⟨bs, q2, n2⟩ := Dqs.look I ds _ _ h2 r2
        refine ⟨_, .cons q1 q2, fun z => ?_⟩
        simp only [unlisteds, Bool.and_eq_true] at z
        intro m
        rcases List.mem_append.mp m with m | m
        · exact n1 z.1 m
        · exact n2 z.2 m
end
end
/-- what repr(x) asks -/
def rShow (K : PySem.W.Frag) : List V → Hp → VK → Prop := fun xs H Q => ∃ (x : V) (d : PyData), xs = [x] ∧ Dq K H d x ∧ d.showable = true ∧ (d.hasDict = true → unlisted d = true) ∧ d.depth ≤ 40 ∧ d.shown.length ≤ sizeLine ∧ Q (.str d.shown) H
theorem call_show {X : Cx} (hg : X.A.guards = some []) (hu : X.A.units + 64 < cLine) : CallR X (.builtin "repr") (rShow X.K) := by
  intro pins s σ H xs us Q I r h
  obtain ⟨x, d, rfl, dq, sh, nl, dp, sz, q⟩ := h
  obtain ⟨u, rfl, ru⟩ := vals1 r
  obtain ⟨as, rd, na⟩ := Dq.look I d x u dq ru
  have ref : ∀ a, u = .ref a → wpAny (model X.prog X.w) X.A (call (.builtin "repr") [.ref a]) (EP X pins σ Q) X.xe s := fun a e => by
    subst e
    exact repr_of_reads' rd sh (fun z => na (nl z)) hg (by omega) (fun b o z => z) (fun h' u tk hk => ⟨.str d.shown, H, I.kept (t' := tk) hk, ⟨u, rfl⟩, q⟩) sz
  cases dq with
  | non => cases ru; rw [PyData.shown_none] at q; exact PySem.P.repr_of_none ⟨.str _, H, I.tok _, ⟨_, rfl⟩, q⟩
  | bl b => cases ru; rw [PyData.shown_bool] at q; exact PySem.P.repr_of_bool ⟨.str _, H, I.tok _, ⟨_, rfl⟩, q⟩
  | int i =>
    obtain ⟨t, rfl⟩ := ru
    rw [PyData.shown_int] at q
    exact PySem.P.repr_of_int (of_decide_eq_true (by simpa [PyData.showable] using sh)) ⟨.str _, H, I.tok _, ⟨_, rfl⟩, q⟩
  | str y =>
    obtain ⟨t, rfl⟩ := ru
    rw [PyData.shown_str] at q sz
    exact PySem.P.repr_of_str ⟨.str _, H, I.tok _, ⟨_, rfl⟩, q⟩ sz
  | lst _ _ => cases ru; exact ref _ rfl
  | tup _ _ => cases ru; exact ref _ rfl
  | dct _ => cases ru; exact ref _ rfl
end Y
set_option Elab.async false
set_option linter.all false
set_option maxRecDepth 100000
set_option maxHeartbeats 4000000
namespace HT
open PySem PySem.Spec PyProof.Rows
/-! ### t[::-1], t[:0:-1] of a tuple -/
def rvN : Option Int → Nat
  | none => 0
  | some _ => 1
theorem fm_congr {α β : Type} {f g : α → Option β} : ∀ {l : List α}, (∀ x ∈ l, f x = g x) → l.filterMap f = l.filterMap g
  | [], _ => rfl
  | a :: l, h => by
    rw [List.filterMap_cons, List.filterMap_cons, h a List.mem_cons_self, fm_congr (l := l) fun x hx => h x (List.mem_cons_of_mem _ hx)]
theorem rv_list {α : Type} (l : List α) : (List.range l.length).filterMap (fun k => l[l.length - 1 - k]?) = l.reverse := by
  have h := PySem.W.krv_all l.toArray
  have h : (List.range l.length).filterMap (fun k => l[k]?) = l := by
    have e : l.toArray.size = l.length := List.size_toArray
    rw [e] at h
    simpa using h
  have e1 := PySem.W.krv_range l.length
  have e2 : (List.range l.length).filterMap (fun k => l[l.length - 1 - k]?) = ((List.range l.length).map (fun k => l.length - 1 - k)).filterMap (fun k => l[k]?) := by
    rw [List.filterMap_map]
    rfl
  rw [e2, e1, List.filterMap_reverse, h]
theorem rv_pick {α : Type} (l : List α) (j : Nat) : (List.range (l.length - j)).filterMap (fun k => l[l.length - 1 - k]?) = (l.drop j).reverse := by
  have h := rv_list (l.drop j)
  rw [List.length_drop] at h
  rw [← h]
  refine fm_congr fun k hk => ?_
  have hk := List.mem_range.mp hk
  rw [List.getElem?_drop]
  congr 1
  omega
theorem rv_pickA (xs : Array Value) (j : Nat) : ((List.range (xs.size - j)).filterMap fun (m : Nat) => xs[(((xs.size : Int) - 1) + (m : Int) * (-1)).toNat]?).toArray = (xs.toList.drop j).reverse.toArray := by
  have h := rv_pick xs.toList j
  rw [Array.length_toList] at h
  rw [← h]
  congr 1
  refine fm_congr fun k hk => ?_
  have hk := List.mem_range.mp hk
  have e : (((xs.size : Int) - 1) + (k : Int) * (-1)).toNat = xs.size - 1 - k := by omega
  rw [e]
  exact (Array.getElem?_toList ..).symm
section
variable {prog : Program} {w : World} {A : Around} {E : Value → Shared → Prop} {s : Shared}
theorem sliceApplied_rev {sl : Addr} {vl vu vs : Value} {hi : Option Int} {n : Nat} {Q : Int × Int × Nat → Shared → Prop} (hs : s.heap.IsSliceOf sl vl vu vs) (pl : IsPart vl none) (pu : IsPart vu hi) (ps : IsPart vs (some (-1))) (ho : hi = none ∨ hi = some 0)
    (h : Q (((n : Int) - 1), -1, n - rvN hi) s) : wpAny (model prog w) A (Builtin.Slice.sliceApplied (.ref sl) (pure (n : Int))) Q E s := by
  obtain ⟨os, hos, hcs, hds⟩ := id hs
  unfold Builtin.Slice.sliceApplied Builtin.Slice.sliceFields
  refine wpAny_bind (wpAny_bind (wpAny_field hos hds (x := vl) rfl (wpAny_bind (wpAny_field hos hds (x := vu) rfl (wpAny_bind (wpAny_field hos hds (x := vs) rfl (wpAny_pure ?_)))))))
  refine wpAny_bind (slicePart_ ps ?_)
  show wpAny _ _ (if (((-1) : Int) == 0) = true then _ else _) _ _ s
  rw [if_neg (by decide)]
  refine wpAny_bind (slicePart_ pl (wpAny_bind (slicePart_ pu (wpAny_bind (wpAny_pure ?_)))))
  have e : Builtin.Slice.sliceAdjust none hi (-1) (n : Int) = ((n : Int) - 1, if hi = none then -1 else min 0 ((n : Int) - 1)) := by
    rcases ho with rfl | rfl <;> rfl
  have e2 : Builtin.Slice.slicePlaces ((n : Int) - 1) (if hi = none then -1 else min 0 ((n : Int) - 1)) (-1) = n - rvN hi := by
    unfold Builtin.Slice.slicePlaces
    rcases ho with rfl | rfl
    · show (if ((-1 : Int) > 0) then _ else (if (n : Int) - 1 > -1 then ((n : Int) - 1 - -1 - 1) / (- -1) + 1 else 0)).toNat = n - 0
      rw [if_neg (by decide), show (- -1 : Int) = 1 by decide, Int.ediv_one]
      split <;> omega
    · show (if ((-1 : Int) > 0) then _ else (if (n : Int) - 1 > min 0 ((n : Int) - 1) then ((n : Int) - 1 - min 0 ((n : Int) - 1) - 1) / (- -1) + 1 else 0)).toNat = n - 1
      rw [if_neg (by decide), show (- -1 : Int) = 1 by decide, Int.ediv_one]
      split <;> omega
  show wpAny _ _ (match Builtin.Slice.sliceAdjust none hi (-1) (n : Int) with | (lo, hi) => pure (lo, (-1 : Int), Builtin.Slice.slicePlaces lo hi (-1))) _ _ s
  rw [e]
  show wpAny _ _ (pure (((n : Int) - 1), (-1 : Int), Builtin.Slice.slicePlaces ((n : Int) - 1) (if hi = none then -1 else min 0 ((n : Int) - 1)) (-1))) _ _ s
  rw [e2]
  exact wpAny_pure h
theorem getItem_tuple_rev {t sl : Addr} {items : Array Value} {vl vu vs : Value} {hi : Option Int} {Q : Value → Shared → Prop} (ht : IsTup s.heap t items) (hs : s.heap.IsSliceOf sl vl vu vs) (pl : IsPart vl none) (pu : IsPart vu hi) (ps : IsPart vs (some (-1))) (ho : hi = none ∨ hi = some 0)
    (h : Q (.ref s.heap.objs.size) { s with heap := s.heap.push { cls := .type "tuple", data := .seq (items.toList.drop (rvN hi)).reverse.toArray } })
    (hsz : items.size ≤ sizeLine) : wpAny (model prog w) A (getItem (.ref t) (.ref sl)) Q E s := by
  have htake : sizeOk (.seq (items.toList.drop (rvN hi)).reverse.toArray) := by
    show (items.toList.drop (rvN hi)).reverse.toArray.size ≤ sizeLine
    rw [List.size_toArray, List.length_reverse, List.length_drop, Array.length_toList]
    omega
  obtain ⟨os, hos, hcs, hds⟩ := id hs
  have hTs : s.TypeIs (.ref sl) "slice" := ⟨os, hos, hcs⟩
  unfold getItem
  try with_reducible refine wpAny_holding ?_
  first | refine wpAny_bind (wpAny_pure ?_) | skip
  refine wpAny_bind (wpAny_sequenceKey ht.typeIs (by decide) ?_)
  refine wpAny_bind (wpAny_callSpecial?_slot (name := Str.ofString "__getitem__") ht.typeIs PyProof.Rows.slot_tuple_getitem
    (wpAny_call_entry PyProof.Rows.slot_tuple_getitem ht.typeIs entry_tuple_getitem ?_ (args_tuple_getitem _ _)))
  show wpAny _ _ (Builtin.Tuple.tupleItemsOf (.ref t) >>= _) _ _ s
  refine wpAny_bind (tupleItemsOf_ ht ?_)
  refine wpAny_bind (wpAny_typeOf hTs ?_)
  rw [if_pos (by decide)]
  refine wpAny_bind (sliceApplied_rev hs pl pu ps ho ?_)
  have hno : ¬ ((((items.size : Int) - 1) == 0 && (-1 : Int) == 1 && (items.size - rvN hi) == items.size) = true) := by
    intro q
    rw [Bool.and_eq_true, Bool.and_eq_true] at q
    exact absurd q.1.2 (by decide)
  show wpAny _ _ (if (((items.size : Int) - 1) == 0 && (-1 : Int) == 1 && (items.size - rvN hi) == items.size) = true then _ else _) _ _ s
  rw [if_neg hno, rv_pickA]
  first
    | exact wpAny_bind (m := Builtin.Tuple.tupleExact _) (wpAny_newObj_type (wpAny_pure ⟨_, rfl, wpAny_pure h⟩) htake)
    | exact wpAny_bind (m := Builtin.Tuple.tupleExact _) (wpAny_newObj_type (wpAny_bind (wpAny_pure (wpAny_pure ⟨_, rfl, wpAny_pure h⟩))) htake)
    | exact wpAny_bind (wpAny_bind (m := Builtin.Tuple.tupleExact _) (wpAny_newObj_type (wpAny_pure (wpAny_pure ⟨_, rfl, wpAny_pure h⟩)) htake))
    | exact wpAny_bind (wpAny_bind (m := Builtin.Tuple.tupleExact _) (wpAny_newObj_type (wpAny_pure ⟨_, rfl, wpAny_pure h⟩) htake))
end
end HT
namespace L2
open PySem PySem.Spec PyProof.Rows
def tRevT (K : PySem.W.Frag) (te : TE) (th : TO) : TE := fun σ H Q => te σ H fun x H1 => th σ H1 fun o H2 => ∃ a xs, x = .ref a ∧ SqT K H2 a xs ∧ (o = none ∨ o = some 0) ∧ ∀ p, H2 p = none → Q (.ref p) (upd H2 p (.tup (xs.drop (HT.rvN o)).reverse))
/-- t[:hi:-1], hi left out or 0 -/
theorem pe_revT {X : Cx} {e : Expr} {te : TE} {hi : Option Expr} {th : TO} {k : Nat} {p1 p2 p3 pos : Pos} (he : PE X e te) (hh : PO X hi th)
    (hsu : ∀ a sl, subscripted (.Slice none hi (some (.UnaryOp .USub (.Constant (.int 1) k p1) p2)) p3) false (.ref a) (.ref sl) = operate [.ref a, .ref sl] (getItem (.ref a) (.ref sl)) := by intro _ _; with_unfolding_all rfl) : PE X (.Subscript e (.Slice none hi (some (.UnaryOp .USub (.Constant (.int 1) k p1) p2)) p3) pos) (tRevT X.K te th) := by
  refine ⟨fun pins s σ H Q I h => ?_⟩
  refine Subscript_ (thn (he.run pins s σ H _ I h) fun v s1 ⟨x, H1, I1, r1, q1⟩ => ?_)
  have hst : PO X (some (.UnaryOp .USub (.Constant (.int 1) k p1) p2)) (tPart (tUn (rU fun i => .int (-i)) (tC (.int 1)))) := po_some (pe_un un_neg pe_int)
  refine wpAny_Slice (thn (po_none.run pins s1 σ H1 (fun o H2 => o = none ∧ H2 = H1) I1 ⟨rfl, rfl⟩) fun vl s2 ⟨l, H2, I2, pl, el, e2⟩ => ?_)
  subst el e2
  refine thn (hh.run pins s2 σ H2 _ I2 q1) fun vu s3 ⟨u, H3, I3, pu, q3⟩ => ?_
  obtain ⟨a, xs, ex, hx, ho, q⟩ := q3
  subst ex
  cases r1
  refine thn (hst.run pins s3 σ H3 (fun o H4 => o = some (-1) ∧ H4 = H3) I3 ⟨1, rfl, -1, rfl, rfl, rfl⟩) fun vs s4 ⟨o, H4, I4, ps, eo, e4⟩ => ?_
  subst eo e4
  have I5 : Inv X pins σ H4 { s4 with heap := s4.heap.push { cls := .type "slice", data := .fields #[vl, vu, vs] } } := I4.kept (t' := s4.toks) fun b ob q => Heap.get?_push_of_some _ q
  obtain ⟨its, r, ht, hz⟩ := I5.tuple hx
  have hlen := r.length
  show wpAny (model X.prog X.w) X.A (subscriptTail e (.Slice none hi (some (.UnaryOp .USub (.Constant (.int 1) k p1) p2)) p3) (.ref a) (.ref s4.heap.objs.size)) (EP X pins σ Q) X.xe { s4 with heap := s4.heap.push { cls := .type "slice", data := .fields #[vl, vu, vs] } }
  refine tail_any (ops := [.ref a, .ref s4.heap.objs.size]) ht.typeIs PyProof.Rows.slot_tuple_getitem.lookup ?_ (hsu _ _)
  refine HT.getItem_tuple_rev ht (Heap.IsSliceOf.new _ vl vu vs) pl pu ps ho ?_ (by rw [List.size_toArray]; omega)
  refine ⟨.ref _, _, I5.laid (t' := s4.toks) (o := .tup (xs.drop (HT.rvN u)).reverse) (fun b ob q => Heap.get?_push_of_some _ q) (Nat.le_refl _) ?_, rfl, q _ (I5.hok.fresh (Nat.le_refl _))⟩
  exact ⟨by rw [List.length_reverse, List.length_drop]; omega, _, (r.drop (HT.rvN u)).reverse, IsTup.new _ _⟩
end L2
set_option Elab.async false
set_option linter.all false
set_option maxRecDepth 100000
set_option maxHeartbeats 2000000
namespace RwD
open PySem PySem.Spec PyProof.Rows L2
/-! ### rows of ints as data: == and in -/
def rd (r : List Int) : PyData := .tuple (r.map PyData.int)
def rsd (M : List (List Int)) : PyData := .tuple (M.map rd)
theorem eqv_ints : ∀ (ns ms : List Int), PyData.eqvAll (ns.map PyData.int) (ms.map PyData.int) = decide (ns = ms)
  | [], [] => by simp [PyData.eqvAll]
  | [], _ :: _ => by simp [PyData.eqvAll]
  | _ :: _, [] => by simp [PyData.eqvAll]
  | a :: ns, b :: ms => by
    rw [List.map_cons, List.map_cons, PyData.eqvAll, eqv_ints ns ms, Bool.eq_iff_iff]
    simp [PyData.eqv]
theorem eqv_rd (a b : List Int) : PyData.eqv (rd a) (rd b) = decide (a = b) := by
  have : PyData.eqv (rd a) (rd b) = PyData.eqvAll (a.map PyData.int) (b.map PyData.int) := by simp only [rd, PyData.eqv]
  rw [this, eqv_ints]
theorem eqv_rds : ∀ (L M : List (List Int)), PyData.eqvAll (L.map rd) (M.map rd) = decide (L = M)
  | [], [] => by simp [PyData.eqvAll]
  | [], _ :: _ => by simp [PyData.eqvAll]
  | _ :: _, [] => by simp [PyData.eqvAll]
  | a :: L, b :: M => by
    rw [List.map_cons, List.map_cons, PyData.eqvAll, eqv_rds L M, eqv_rd, Bool.eq_iff_iff]
    simp
theorem eqv_rsd (L M : List (List Int)) : PyData.eqv (rsd L) (rsd M) = decide (L = M) := by
  have : PyData.eqv (rsd L) (rsd M) = PyData.eqvAll (L.map rd) (M.map rd) := by simp only [rsd, PyData.eqv]
  rw [this, eqv_rds]
theorem any_rd (L : List (List Int)) (r : List Int) : (L.map rd).any (fun y => PyData.eqv y (rd r)) = decide (r ∈ L) := by
  rw [List.any_map, Bool.eq_iff_iff, List.any_eq_true, decide_eq_true_iff]
  constructor
  · rintro ⟨t, h, q⟩
    have : t = r := of_decide_eq_true ((eqv_rd t r).symm.trans q)
    rw [← this]
    exact h
  · intro h
    exact ⟨r, h, (eqv_rd r r).trans (decide_eq_true rfl)⟩
theorem lay_ints : ∀ ns : List Int, PyData.canLayAll0 (ns.map PyData.int) = true
  | [] => rfl
  | n :: ns => by simp only [List.map_cons, PyData.canLayAll0, lay_ints ns, PyData.canLay0, Bool.and_self]
theorem lay_rd (r : List Int) : (rd r).canLay0 = true := by simp only [rd, PyData.canLay0]; exact lay_ints r
theorem lay_rds : ∀ L : List (List Int), PyData.canLayAll0 (L.map rd) = true
  | [] => rfl
  | r :: L => by
    rw [List.map_cons]
    show ((rd r).canLay0 && PyData.canLayAll0 (L.map rd)) = true
    rw [lay_rd, lay_rds L]
    rfl
theorem depth_ints : ∀ ns : List Int, PyData.depthAll (ns.map PyData.int) ≤ 1
  | [] => by simp [PyData.depthAll]
  | n :: ns => by
    have := depth_ints ns
    simp only [List.map_cons, PyData.depthAll, PyData.depth]
    omega
theorem depth_rd (r : List Int) : (rd r).depth ≤ 2 := by
  have := depth_ints r
  simp only [rd, PyData.depth]
  omega
theorem depth_rds : ∀ L : List (List Int), PyData.depthAll (L.map rd) ≤ 2
  | [] => by simp [PyData.depthAll]
  | r :: L => by
    have := depth_rds L
    have := depth_rd r
    simp only [List.map_cons, PyData.depthAll]
    omega
theorem depth_rsd (L : List (List Int)) : (rsd L).depth ≤ 3 := by
  have := depth_rds L
  simp only [rsd, PyData.depth]
  omega
theorem sh_rd (r : List Int) : SeqAt.shaped (rd r) = true := by
  unfold SeqAt.shaped
  rw [lay_rd, decide_eq_true (Nat.le_trans (depth_rd r) (by decide))]
  rfl
theorem sh_rsd (L : List (List Int)) : SeqAt.shaped (rsd L) = true := by
  unfold SeqAt.shaped
  rw [show (rsd L).canLay0 = true by simp only [rsd, PyData.canLay0]; exact lay_rds L, decide_eq_true (Nat.le_trans (depth_rsd L) (by decide))]
  rfl
/-- a tuple of ints, wherever it stands -/
def RowA (K : PySem.W.Frag) (H : Hp) (v : V) (r : List Int) : Prop := ∃ a, v = .ref a ∧ SqT K H a (r.map V.int)
def RowsA (K : PySem.W.Frag) (H : Hp) (v : V) (M : List (List Int)) : Prop := ∃ a xs, v = .ref a ∧ SqT K H a xs ∧ Paired (RowA K H) xs M
theorem dp_ints {K : PySem.W.Frag} {H : Hp} : ∀ r : List Int, DpAll K H (r.map V.int) (r.map PyData.int)
  | [] => .nil
  | i :: r => .cons (.int i) (dp_ints r)
theorem RowA.dp {K : PySem.W.Frag} {H : Hp} {v : V} {r : List Int} (h : RowA K H v r) : Dp K H v (rd r) := by
  obtain ⟨a, rfl, h⟩ := h
  exact .tup h (dp_ints r)
theorem dp_rows {K : PySem.W.Frag} {H : Hp} {xs : List V} {M : List (List Int)} (h : Paired (RowA K H) xs M) : DpAll K H xs (M.map rd) := by
  induction h with
  | nil => exact .nil
  | cons a _ ih => exact .cons a.dp ih
theorem RowsA.dp {K : PySem.W.Frag} {H : Hp} {v : V} {M : List (List Int)} (h : RowsA K H v M) : Dp K H v (rsd M) := by
  obtain ⟨a, xs, rfl, h, p⟩ := h
  exact .tup h (dp_rows p)
def rEqR (K : PySem.W.Frag) (b : Bool) : R2 := fun x y H Q => ∃ r q, RowA K H x r ∧ RowA K H y q ∧ Q (.bl (decide (r = q) != b)) H
theorem op_eqR {X : Cx} {K : PySem.W.Frag} (e : X.K = K) (hu : X.A.units + 64 < cLine) : OpR X (compareOp .Eq) (rEqR K false) := by
  subst e
  intro pins s σ H x y v u Q I rx ry h
  obtain ⟨r, q, hx, hy, k⟩ := h
  refine op_eqD hu pins s σ H x y v u Q I rx ry ⟨rd r, rd q, hx.dp, hy.dp, sh_rd r, sh_rd q, ?_⟩
  rw [eqv_rd]
  rwa [Bool.bne_false] at k
theorem op_neR {X : Cx} {K : PySem.W.Frag} (e : X.K = K) (hu : X.A.units + 64 < cLine) : OpR X (compareOp .NotEq) (rEqR K true) := by
  subst e
  intro pins s σ H x y v u Q I rx ry h
  obtain ⟨r, q, hx, hy, k⟩ := h
  refine op_neD hu pins s σ H x y v u Q I rx ry ⟨rd r, rd q, hx.dp, hy.dp, sh_rd r, sh_rd q, ?_⟩
  rw [eqv_rd]
  rwa [Bool.bne_true] at k
def rEqRs (K : PySem.W.Frag) (b : Bool) : R2 := fun x y H Q => ∃ L M, RowsA K H x L ∧ RowsA K H y M ∧ Q (.bl (decide (L = M) != b)) H
theorem op_eqRs {X : Cx} {K : PySem.W.Frag} (e : X.K = K) (hu : X.A.units + 64 < cLine) : OpR X (compareOp .Eq) (rEqRs K false) := by
  subst e
  intro pins s σ H x y v u Q I rx ry h
  obtain ⟨r, q, hx, hy, k⟩ := h
  refine op_eqD hu pins s σ H x y v u Q I rx ry ⟨rsd r, rsd q, hx.dp, hy.dp, sh_rsd r, sh_rsd q, ?_⟩
  rw [eqv_rsd]
  rwa [Bool.bne_false] at k
theorem op_neRs {X : Cx} {K : PySem.W.Frag} (e : X.K = K) (hu : X.A.units + 64 < cLine) : OpR X (compareOp .NotEq) (rEqRs K true) := by
  subst e
  intro pins s σ H x y v u Q I rx ry h
  obtain ⟨r, q, hx, hy, k⟩ := h
  refine op_neD hu pins s σ H x y v u Q I rx ry ⟨rsd r, rsd q, hx.dp, hy.dp, sh_rsd r, sh_rsd q, ?_⟩
  rw [eqv_rsd]
  rwa [Bool.bne_true] at k
/-- a row in a tuple or a list of rows -/
def rInR (K : PySem.W.Frag) : R2 := fun x y H Q => ∃ (a : Addr) (xs : List V) (L : List (List Int)) (r : List Int), y = .ref a ∧ (SqT K H a xs ∨ SqL K H a xs) ∧ Paired (RowA K H) xs L ∧ RowA K H x r ∧ Q (.bl (decide (r ∈ L))) H
theorem op_inR {X : Cx} {K : PySem.W.Frag} (e : X.K = K) (hu : X.A.units + 64 < cLine) : OpR X (compareOp .In) (rInR K) := by
  subst e
  intro pins s σ H x y v u Q I rx ry h
  obtain ⟨a, xs, L, r, rfl, hs, hp, hx, q⟩ := h
  obtain ⟨as, r1⟩ := Dp.reads I (rd r) x v hx.dp rx
  have hm : X.A.units + 1 + min (PyData.depthAll (L.map rd)) (rd r).depth < cLine := by
    have h1 := Nat.min_le_right (PyData.depthAll (L.map rd)) (rd r).depth
    have h2 := depth_rd r
    omega
  rcases hs with hs | hs
  · obtain ⟨bs, r2⟩ := Dp.reads I (.tuple (L.map rd)) (.ref a) u (.tup hs (dp_rows hp)) ry
    exact SeqAt.in_tuple_reads r2 r1 (lay_rds L) (lay_rd r) hm ⟨.bl _, H, I, rfl, by rw [any_rd]; exact q⟩
  · obtain ⟨bs, r2⟩ := Dp.reads I (.list (L.map rd)) (.ref a) u (.lst hs (dp_rows hp)) ry
    exact SeqAt.in_list_reads r2 r1 (lay_rds L) (lay_rd r) hm ⟨.bl _, H, I, rfl, by rw [any_rd]; exact q⟩
end RwD
set_option Elab.async false
set_option linter.all false
set_option maxRecDepth 100000
set_option maxHeartbeats 2000000
/-! d.setdefault(k, x), d a dict by rows -/
namespace L2
open PySem PySem.Spec PyProof.Rows
/-- what comes of d.setdefault(k, z): v, and the heap behind -/
def DSet (H : Hp) (a : Addr) (kvs : List (List Key × V)) (k : List Key) (z v : V) (H' : Hp) : Prop := (valV kvs k = some v ∧ H' = H) ∨ (valV kvs k = none ∧ v = z ∧ H' = upd H a (.dT (putK kvs k z)))
def tDSetT (td ty tx : TE) : TE := fun σ H Q => td σ H fun x H1 => ∃ a, x = .ref a ∧ IsD H1 a ∧ ty σ H1 fun y H2 => tx σ H2 fun z H3 => ∃ kvs k b, H3 a = some (.dT kvs) ∧ y = .ref b ∧ H3 b = some (.tup (k.map kV)) ∧ kvs.length < sizeLine ∧
  ∀ v H4, DSet H3 a kvs k z v H4 → Q v H4
section
variable {X : Cx} {pins : List (Addr × Obj)} {σ : St} {H : Hp} {s : Shared} {a b : Addr} {v : V} {u r : Value} {A : Around} {E : Value → Shared → Prop} {kvs : List (List Key × V)} {k : List Key}
theorem d_setdefT {Q : Value → Shared → Prop} (hu : A.units + 1 < cLine) (I : Inv X pins σ H s) (e : H a = some (.dT kvs)) (eb : H b = some (.tup (k.map kV))) (hlen : kvs.length < sizeLine) (rv : RelV v r)
    (h1 : ∀ y w' s', valV kvs k = some y → RelV y w' → Inv X pins σ H s' → Q w' s') (h2 : ∀ s', valV kvs k = none → Inv X pins σ (upd H a (.dT (putK kvs k v))) s' → Q r s') :
    wpAny (model X.prog X.w) A (call (.builtin "dict.setdefault") [.ref a, .ref b, r]) Q E s := by
  obtain ⟨z, hd, xs, rel, dd⟩ := dt_of I.hok e
  have hz : xs.length ≤ sizeLine := by rw [← Paired.length rel]; exact z
  have hl : (putK kvs k v).length ≤ sizeLine := by have := length_putK kvs k v; omega
  refine call_setdefault_heap (hsz := hz) (tupleKind_room_in1 hu) (key_of I.hok eb) hd dd (fun p hp => ?_) fun hn h' dd' hs => ?_
  · have rv' := rel.val k
    rw [hp] at rv'
    cases ev : valV kvs k with
    | none => rw [ev] at rv'; exact rv'.elim
    | some y =>
      rw [ev] at rv'
      exact h1 y _ _ ev rv' (I.tok _)
  · have q := rel.val k
    rw [hn] at q
    have hn' : valV kvs k = none := by
      cases ev : valV kvs k with
      | none => rfl
      | some y => rw [ev] at q; exact (show False from q).elim
    refine h2 _ hn' ?_
    obtain ⟨q, es, ep, hq, h2, h3, h4, _, h5⟩ := dd'
    refine d_write I (by rw [e]; exact True.intro) hs ⟨q, hq⟩ ⟨hl, hd, _, (rel.put k eb rv).keeps fun c ys ec => ?_, q, es, ep, hq, h2, h3, h4, h5⟩
    rw [upd_ne (ne_of ec e (fun z => nomatch z))]
    exact ec
end
section
variable {X : Cx} {o e f : Expr} {apos cpos : Pos} {td ty tx : TE}
theorem pe_dsetT (hu : X.A.units + 1 < cLine) (ho : PE X o td) (he : PE X e ty) (hf : PE X f tx) (m : M2 X o "setdefault" apos e f cpos) : PE X (.Call (.Attribute o "setdefault" apos) [e, f] [] cpos) (tDSetT td ty tx) := by
  refine ⟨fun pins s σ H Q I h => ?_⟩
  refine wpAny_Call_method m.base m.few m.line PySem.F.plainAttrs_dict PySem.F.slot_dict_setdefault PySem.F.type_dict_setdefault (thn (ho.run pins s σ H _ I h) fun u s1 ⟨x, H1, I1, rx, a, ex, d, q1⟩ => ?_)
  subst ex
  obtain rfl : u = Value.ref a := rx
  obtain ⟨t1, t2, _⟩ := isD_at I1 d
  refine ⟨t1, t2, ?_⟩
  rw [m.trees]
  refine Calls.callWith_builtin rfl (Calls.evalArgs_plain (Calls.spliced_cons (thn (he.run pins s1 σ H1 _ I1 q1) fun iv s2 ⟨y, H2, I2, ry, q2⟩ =>
    Calls.spliced_cons (thn (hf.run pins s2 σ H2 _ I2 q2) fun fv s3 ⟨z, H3, I3, rz, kvs, k, b, ea, ey, eb, hlen, q3⟩ => Calls.spliced_nil ?_))))
  subst ey
  obtain rfl : iv = Value.ref b := ry
  exact d_setdefT hu I3 ea eb hlen rz (fun y w' s' ev rw' I' => ⟨y, H3, I', rw', q3 y _ (.inl ⟨ev, rfl⟩)⟩) fun s' ev I' => ⟨z, _, I', rz, q3 z _ (.inr ⟨ev, rfl, rfl⟩)⟩
end
end L2
set_option Elab.async false
set_option linter.all false
set_option maxRecDepth 100000
set_option maxHeartbeats 2000000
namespace L2
open PySem PySem.Spec PyProof.Rows
section
variable {X : Cx}
/-- set(), for tuples of ints -/
def rSet0T (P : Program) (w : World) : List V → Hp → VK → Prop := fun xs H Q => xs = [] ∧ ∀ p, H p = none → Q (.ref p) (upd H p (SetTO P w p []))
theorem cr_set0T : CallR X (.type "set") (rSet0T X.prog X.w) := by
  intro pins s σ H xs us Q I r h
  obtain ⟨rfl, q⟩ := h
  cases r
  refine setR_new fun _ => ?_
  have new := (setTR_fresh (P := X.prog) (w := X.w) (Heap.get?_push_size s.heap (o := { cls := .type "set", dict := none, data := .set #[] 0 (.fresh 0 0 (!X.w.params.followText "set-order")) }) rfl)).t0
  exact ⟨.ref _, upd H s.heap.objs.size (SetTO X.prog X.w s.heap.objs.size []), I.laid (t' := s.toks) (fun b u e => Heap.get?_push_of_some _ e) (Nat.le_refl _) (setTO_new new), rfl, q _ (I.hok.fresh (Nat.le_refl _))⟩
/-- seen.add(t) -/
def rSAddT (K : PySem.W.Frag) (P : Program) (w : World) : V → List V → Hp → VK → Prop := fun x xs H Q => ∃ (a b : Addr) (L : List (Addr × List Int)) (k : List Int), x = V.ref a ∧ xs = [.ref b] ∧ H a = some (SetTO P w a L) ∧ (∀ p ∈ L, SqT K H p.1 (p.2.map V.int)) ∧ SqT K H b (k.map V.int) ∧ L.length + 1 < 64 ∧
  ∀ L', (k ∈ L.map (·.2) → L' = L) → (k ∉ L.map (·.2) → L'.Perm ((b, k) :: L)) → Q .non (upd H a (SetTO P w a L'))
theorem call_saddT {pins : List (Addr × Obj)} {σ : St} {H : Hp} {s : Shared} {a b : Addr} {L : List (Addr × List Int)} {k : List Int} {Q : Value → Shared → Prop} (hu : X.A.units + 64 < cLine) (I : Inv X pins σ H s) (ha : H a = some (SetTO X.prog X.w a L)) (hL : ∀ p ∈ L, SqT X.K H p.1 (p.2.map V.int)) (hb : SqT X.K H b (k.map V.int)) (hf : L.length + 1 < 64)
    (q : ∀ L' s', (k ∈ L.map (·.2) → L' = L) → (k ∉ L.map (·.2) → L'.Perm ((b, k) :: L)) → Inv X pins σ (upd H a (SetTO X.prog X.w a L')) s' → Q .none s') :
    wpAny (model X.prog X.w) X.A (call (.builtin "set.add") [.ref a, .ref b]) Q X.xe s := by
  have R0 : SetT0 X.prog X.w s.heap a L := (I.hok a _ ha).1
  obtain ⟨es, ep, t, R⟩ := R0.full fun p hp => I.isT (hL p hp)
  have hx := I.isT hb
  obtain ⟨o, ho, hex, hd⟩ := R.ob
  have hT : s.TypeIs (.ref a) "set" := ⟨o, ho, hex.1⟩
  refine wpAny_call_entry F.slot_set_add hT F.entry_set_add ?_ (F.args_set_add_2 _ _)
  unfold Builtin.«set.add» Builtin.Frozenset.oneOther
  simp only [List.isEmpty_nil, bind_assoc]
  unfold Builtin.Frozenset.addrOf setAdd
  refine wpAny_bind (wpAny_pure ?_)
  try dsimp only
  refine wpAny_bind (wpAny_pure ?_)
  try dsimp only
  refine wpAny_bind ?_
  refine wpAny_holding ?_
  have hu1 : X.A.in1.units < cLine := Nat.lt_of_le_of_lt (show X.A.in1.units ≤ X.A.units + 64 from Nat.le_trans (Nat.le_refl _) (by show X.A.units + 1 ≤ X.A.units + 64; omega)) hu
  refine wpAny_bind (wpAny_pyHash_tuple hu1 hx ?_)
  refine add_at (s := { s with toks := s.toks + (k.length + 1) }) R hx hu1 hf fun b' h' L' es' ep' t' sb R2 c1 c2 => ?_
  show wpAny _ _ (ret Value.none) _ _ _
  refine wpAny_pure ⟨_, rfl, q L' _ c1 c2 (I.write (e := a) (t' := s.toks + (k.length + 1)) (by rw [ha]; trivial) (.inl rfl) (fun c u hc hu => (sb.2 c hc).trans hu) ?_ (setTO_new R2.t0))⟩
  obtain ⟨o', ho', _⟩ := R2.ob
  exact ⟨o', ho'⟩
end
end L2
set_option Elab.async false
set_option linter.all false
set_option maxRecDepth 100000
set_option maxHeartbeats 2000000
namespace L2
open PySem PySem.Spec PyProof.Rows
/-! ### seen.add(t) as an expression -/
def tSAddT (K : PySem.W.Frag) (P : Program) (w : World) (to : TE) (t : TA) : TE := fun σ H Q => to σ H fun x H1 => (∃ a L, x = V.ref a ∧ H1 a = some (SetTO P w a L)) ∧ t σ H1 fun xs H2 => rSAddT K P w x xs H2 Q
theorem pe_saddT {X : Cx} {o e : Expr} {es : List Expr} {to : TE} {t : TA} {apos cpos : Pos} (hu : X.A.units + 64 < cLine) (ho : PE X o to) (ha : PA X (e :: es) t)
    (hbase : attributeBase o "add" X.env (eval o X.env) = eval o X.env := by rfl) (hfew : ((backTo cpos (starEach (e :: es) X.env)).all (fun x => !x.1) && (backToKw cpos (keywordEach [] X.env)).all (fun x => x.1.isSome) && decide ((e :: es).length + ([] : List Keyword).length + (if ([] : List Keyword).isEmpty then 0 else 1) < 30)) = true := by rfl)
    (hline : (apos.endLine == cpos.line) = true := by rfl) (hs : starEach (e :: es) X.env = (false, eval e X.env) :: starEach es X.env := by rfl) (hplain : (backTo cpos (starEach es X.env)).any (·.1) = false := by rfl) :
    PE X (.Call (.Attribute o "add" apos) (e :: es) [] cpos) (tSAddT X.K X.prog X.w to t) := by
  refine ⟨fun pins s σ H Q I h => ?_⟩
  refine wpAny_Call_method_late hbase hfew hline rfl (thn (ho.run pins s σ H _ I h) fun v s1 ⟨x, H1, I1, r1, ty, q1⟩ => ?_)
  obtain ⟨a, L, rfl, hka⟩ := ty
  have R0 : SetT0 X.prog X.w s1.heap a L := (I1.hok a _ hka).1
  obtain ⟨es', ep, t', ⟨ob, hob, hex, hdt⟩, _⟩ := R0.ex
  cases r1
  refine ⟨"set", "set.add", F.plainAttrs_set, F.slot_set_add, F.type_set_add, ⟨ob, hob, hex.1⟩, (fun b e => by cases e; exact ⟨ob, hob, hex.2.1⟩), ?_⟩
  have hA := ha.run cpos pins s1 σ H1 _ I1 q1
  rw [hs] at hA ⊢
  refine Calls.callWith_builtin (by show (false || (backTo cpos (starEach es X.env)).any (·.1)) = false; rw [hplain] <;> rfl) (Calls.evalArgs_plain (thn hA fun us s2 ⟨vs, H2, I2, r2, q2⟩ => ?_))
  obtain ⟨a', b, L2, k, e1, rfl, h2, hL, hb, few, q⟩ := q2
  cases e1
  cases r2 with
  | cons ry rt =>
    cases rt
    cases ry
    refine call_saddT hu I2 h2 hL hb few fun L' s' c1 c2 I3 => ?_
    exact ⟨.non, _, I3, rfl, q L' c1 c2⟩
end L2
set_option Elab.async false
set_option linter.all false
set_option maxRecDepth 100000
set_option maxHeartbeats 4000000
namespace Y
open PySem PySem.Spec PyProof.Rows L2
/-! ### the length of a shown row -/
theorem listText_le : ∀ ts : List Str, (listText ts).length ≤ piled ts + 4
  | [] => by decide +kernel
  | t :: r => by
    have hX : (listText (t :: r)).length = (textFrom 0 "[" (t :: r)).length + 1 := by
      unfold listText
      rw [strLen_append]
      rfl
    have hY : textFrom 0 "[" (t :: r) = textFrom 1 ((("[" : String) : Str) ++ (if 0 > 0 then ", " else "" : String) ++ t) r := rfl
    have h := textFrom_length_pos r 1 ((("[" : String) : Str) ++ (if 0 > 0 then ", " else "" : String) ++ t) (by decide)
    have e : ((("[" : String) : Str) ++ (if 0 > 0 then ", " else "" : String) ++ t).length = 1 + t.length := by
      rw [strLen_append, strLen_append]
      rfl
    rw [hX, hY, h, e, piled_cons]
    omega
theorem tupleText_le (ts : List Str) : (tupleText ts).length ≤ piled ts + 4 := by
  unfold tupleText
  rw [strLen_append, strLen_append]
  have e1 : (("(" : Str)).length = 1 := rfl
  have e2 : (((if ts.length == 1 then ",)" else ")" : String)) : Str).length ≤ 2 := by
    split
    · exact Nat.le_refl 2
    · exact (by decide : 1 ≤ 2)
  have e3 : (Str.join ", " ts).length ≤ piled ts := by
    by_cases h : ts = []
    · rw [h]; decide +kernel
    · have := join_length_add ts h
      omega
  omega
theorem piled_le {k : Nat} : ∀ {ts : List Str}, (∀ t ∈ ts, t.length ≤ k) → piled ts ≤ (k + 2) * ts.length
  | [], _ => by rw [piled_nil]; exact Nat.zero_le _
  | t :: r, h => by
    have h1 := h t List.mem_cons_self
    have ih := piled_le (ts := r) fun x hx => h x (List.mem_cons_of_mem _ hx)
    rw [piled_cons, List.length_cons, Nat.mul_succ]
    omega
theorem shownAll_map (ds : List PyData) : PyData.shownAll ds = ds.map PyData.shown := by
  induction ds with
  | nil => rfl
  | cons d ds ih => rw [PyData.shownAll_cons, ih]; rfl
theorem shown_rows_le {k m : Nat} {ds : List PyData} (hk : ∀ d ∈ ds, d.shown.length ≤ k) (hm : ds.length ≤ m) : (PyData.list ds).shown.length ≤ (k + 2) * m + 4 ∧ (PyData.tuple ds).shown.length ≤ (k + 2) * m + 4 := by
  have h1 : piled (PyData.shownAll ds) ≤ (k + 2) * m := by
    rw [shownAll_map]
    refine Nat.le_trans (piled_le fun t ht => ?_) (Nat.mul_le_mul_left _ (by rw [List.length_map]; exact hm))
    obtain ⟨d, hd, rfl⟩ := List.mem_map.mp ht
    exact hk d hd
  have e1 : (PyData.list ds).shown = listText (PyData.shownAll ds) := by simp only [PyData.shown]
  have e2 : (PyData.tuple ds).shown = tupleText (PyData.shownAll ds) := by simp only [PyData.shown]
  rw [e1, e2]
  have := listText_le (PyData.shownAll ds)
  have := tupleText_le (PyData.shownAll ds)
  exact ⟨by omega, by omega⟩
/-! ### data that repr can show -/
structure Sh (d : PyData) (k L : Nat) : Prop where
  show_ : d.showable = true
  nod : d.hasDict = false
  deep : d.depth ≤ k
  len : d.shown.length ≤ L
theorem Sh.mono {d : PyData} {k L k' L' : Nat} (h : Sh d k L) (hk : k ≤ k') (hL : L ≤ L') : Sh d k' L' := ⟨h.show_, h.nod, Nat.le_trans h.deep hk, Nat.le_trans h.len hL⟩
theorem sh_all {ds : List PyData} {k L : Nat} (h : ∀ d ∈ ds, Sh d k L) : PyData.showableAll ds = true ∧ PyData.hasDictAll ds = false ∧ PyData.depthAll ds ≤ k := by
  induction ds with
  | nil => exact ⟨rfl, rfl, Nat.zero_le _⟩
  | cons d ds ih =>
    obtain ⟨h1, h2, h3⟩ := ih fun x hx => h x (List.mem_cons_of_mem _ hx)
    have a := h d List.mem_cons_self
    refine ⟨?_, ?_, Nat.max_le.mpr ⟨a.deep, h3⟩⟩
    · show (d.showable && PyData.showableAll ds) = true
      rw [a.show_, h1]
      rfl
    · show (d.hasDict || PyData.hasDictAll ds) = false
      rw [a.nod, h2]
      rfl
theorem sh_list {ds : List PyData} {k L m : Nat} (h : ∀ d ∈ ds, Sh d k L) (hm : ds.length ≤ m) : Sh (.list ds) (k + 1) ((L + 2) * m + 4) := by
  obtain ⟨h1, h2, h3⟩ := sh_all h
  exact ⟨h1, h2, Nat.succ_le_succ h3, (shown_rows_le (fun d hd => (h d hd).len) hm).1⟩
theorem sh_tuple {ds : List PyData} {k L m : Nat} (h : ∀ d ∈ ds, Sh d k L) (hm : ds.length ≤ m) : Sh (.tuple ds) (k + 1) ((L + 2) * m + 4) := by
  obtain ⟨h1, h2, h3⟩ := sh_all h
  exact ⟨h1, h2, Nat.succ_le_succ h3, (shown_rows_le (fun d hd => (h d hd).len) hm).2⟩
end Y
set_option Elab.async false
set_option linter.all false
set_option maxRecDepth 100000
set_option maxHeartbeats 2000000
namespace Y
open PySem PySem.Spec PyProof.Rows L2
/-- sorted(xs) of a list or a tuple of ints -/
def rSortA (K : PySem.W.Frag) : List V → Hp → VK → Prop := fun vs H Q => ∃ (a : Addr) (ns : List Int), vs = [V.ref a] ∧ SqA K H a (ns.map V.int) ∧ ns.length ≤ 100000 ∧
  ∀ (ms : List Int) (p : Addr), ms.Perm ns → ms.Pairwise (· ≤ ·) → H p = none → Q (.ref p) (upd H p (.lst (ms.map V.int)))
section
variable {X : Cx}
theorem seq_raw {pins : List (Addr × Obj)} {σ : L2.St} {H : Hp} {s : Shared} {a : Addr} {xs : List V} (I : Inv X pins σ H s) (h : SqA X.K H a xs) : ∃ (T : String) (o : Obj) (its : List Value) (n : Nat), (T = "list" ∨ T = "tuple") ∧ s.heap.get? a = some o ∧ o.cls = .type T ∧ o.data = .seq its.toArray n ∧ Vals xs its := by
  rcases h with h | h
  · obtain ⟨its, rv, ⟨o, n, ho, hc, _, hd⟩, _⟩ := I.list h
    exact ⟨"list", o, its, n, .inl rfl, ho, hc, by rw [hd], rv⟩
  · obtain ⟨its, rv, ⟨o, ho, hc, n, hd⟩, _⟩ := I.tuple h
    exact ⟨"tuple", o, its, n, .inr rfl, ho, hc, by rw [hd], rv⟩
theorem cr_sortedA : CallR X (.builtin "sorted") (rSortA X.K) := by
  intro pins s σ H xs us Q I r h
  obtain ⟨a, ns, rfl, hs, hz, q⟩ := h
  obtain ⟨u, rfl, rx⟩ := r.one
  cases rx
  obtain ⟨T, o, its, n, hT, ho, hc, hd, rv⟩ := seq_raw I hs
  have sz : sizeLine = 16777216 := sizeLine_eq
  have hl : its.length = ns.length := by rw [← rv.length, List.length_map]
  have hi := rv.ints
  refine Calls.call_function_entry kind_sorted plain_sorted entry_sorted (args_sorted1 _) ?_
  unfold Builtin.«sorted»
  refine wpAny_bind (m := checkCount "sorted" 1 1 _) (wpAny_pure (wpAny_bind (wpAny_collect_seq a hT ho hc hd (fun h' hk => ?_) (by rw [List.size_toArray]; omega))))
  rw [List.toList_toArray]
  have I1 : Inv X pins σ H { s with heap := h', toks := s.toks } := I.kept hk
  refine wpAny_bind (wpAny_newList ?_ (by omega))
  have at0 : (h'.push (seqObj "list" its.toArray 0)).get? h'.objs.size = some (seqObj "list" its.toArray 0) := Heap.get?_push_size _ rfl
  show wpAny _ _ _ _ _ { s with heap := h'.push (seqObj "list" its.toArray 0) }
  refine wpAny_bind (wpAny_holding (wpAny_call_entry slot_list_sort ⟨_, at0, rfl⟩ entry_list_sort
    (SrtO.list_sort_ord (s := { s with heap := h'.push (seqObj "list" its.toArray 0) }) SrtO.swo_int at0 (by omega) (fun h2 => SrtO.ints_sortable hi h2) fun out h1 h2 => ⟨_, rfl, ?_⟩) (args_list_sort _)))
  obtain ⟨k1, k2, k3⟩ := SrtO.ints_out hi h1 h2
  obtain ⟨ep, he⟩ := sortedHeap_at (vs := its) (out := out.toArray) at0
  have fits : ((out.map SrtO.iv).map V.int).length ≤ sizeLine := by rw [List.length_map, k2.length_eq]; omega
  refine wpAny_pure ⟨_, rfl, .ref h'.objs.size, upd H h'.objs.size (.lst ((out.map SrtO.iv).map V.int)), I1.laid (t' := s.toks) (fun b u e => ?_) (Nat.le_refl _) ⟨fits, out, ep, vals_of_ints k1, he⟩, rfl, q _ _ k2 k3 (I1.hok.fresh (Nat.le_refl _))⟩
  have hb : b < h'.objs.size := Heap.lt_size e
  rw [sortedHeap_old (Nat.ne_of_lt hb) (by rw [size_push']; exact Nat.lt_succ_of_lt hb)]
  exact Heap.get?_push_of_some _ e
end
end Y
set_option Elab.async false
set_option linter.all false
set_option maxRecDepth 100000
set_option maxHeartbeats 2000000
namespace L2
open PySem PySem.Spec PyProof.Rows
/-- sorted(d) of a dict with fewer than 64 keys, all tuples of as many ints in [0, B): a new list of the key tuples, ascending by code B -/
def rSortDT (K : PySem.W.Frag) : List V → Hp → VK → Prop := fun vs H Q => ∃ (a : Addr) (kvs : List (List Key × V)) (d : Nat) (B : Int), vs = [V.ref a] ∧ Rd H a (.dT kvs) ∧ kvs.length < 64 ∧ 1 ≤ d ∧
  (∀ kv ∈ kvs, ∃ ns : List Int, kv.1 = ns.map Sum.inl ∧ ns.length = d ∧ TS.Bd B ns) ∧
  ∀ (bs : List Addr) (ys : List V) (p : Addr), IsKeys H kvs bs → ys.Perm (bs.map V.ref) → ys.Pairwise (fun x y => ∀ n m, TupI K H x n → TupI K H y m → TS.code B n ≤ TS.code B m) → H p = none → Q (.ref p) (upd H p (.lst ys))
theorem isKeys_mem {H : Hp} {kvs : List (List Key × V)} {bs : List Addr} (r : IsKeys H kvs bs) : ∀ b ∈ bs, ∃ kv ∈ kvs, H b = some (.tup (kv.1.map kV)) := by
  unfold IsKeys at r
  induction r with
  | nil => intro b hb; cases hb
  | cons h t ih =>
    intro b hb
    rcases List.mem_cons.mp hb with rfl | hb
    · exact ⟨_, List.mem_cons_self, h⟩
    · obtain ⟨kv, m, e⟩ := ih b hb
      exact ⟨kv, List.mem_cons_of_mem _ m, e⟩
section
variable {X : Cx}
theorem cr_sortedDT (hc : X.calm = true) : CallR X (.builtin "sorted") (rSortDT X.K) := by
  intro pins s σ H xs us Q I r h
  obtain ⟨a, kvs, d, B, rfl, hd, h64, hd1, hB, q⟩ := h
  obtain ⟨u, rfl, rx⟩ := r.one
  cases rx
  obtain ⟨z, hs, ks, pr, o, es, ep, ho, hx, hdt, he, hn⟩ := (show ObjOk X.prog X.w H s.heap a (.dT kvs) from hd.ok I.hok)
  have l1 : es.size = ks.length := size_of_entries he
  have l2 : kvs.length = ks.length := Paired.length pr
  refine Calls.call_function_entry PyProof.Rows.kind_sorted PyProof.Rows.plain_sorted PyProof.Rows.entry_sorted (PyProof.Rows.args_sorted1 _) ?_
  unfold Builtin.«sorted»
  refine wpAny_bind (m := checkCount "sorted" 1 1 _) (wpAny_pure ?_)
  have szl : sizeLine = 16777216 := sizeLine_eq
  refine wpAny_bind (PySem.W.kdu_collect (A := X.A.in1) (kdl_raw hs hx hdt) (I.ok.hd hc) ho (by omega) fun h' tk acc' hk it => ?_)
  have ea : acc'.toList = ks.map fun x => Value.ref x.2.1 := by
    have hl : acc'.toList.length = ks.length := by rw [Array.length_toList, it.1]; exact l1
    apply List.ext_getElem?
    intro j
    rw [List.getElem?_map]
    cases hj : acc'.toList[j]? with
    | none =>
      have h1 := List.getElem?_eq_none_iff.mp hj
      rw [List.getElem?_eq_none (by omega)]
      all_goals rfl
    | some v =>
      obtain ⟨en, hen, hv⟩ := it.2 j v (by rw [← Array.getElem?_toList]; exact hj)
      have qe := entry_at he j
      rw [hen] at qe
      cases hb : ks[j]? with
      | none =>
        rw [hb] at qe
        exact nomatch (show some en = none from qe)
      | some b =>
        rw [hb] at qe
        have e2 : en = entryOfKey (tupleKind (mixKind X.prog X.w)) b := Option.some.inj qe
        rw [hv, e2]
        all_goals rfl
  have I1 : Inv X pins σ H { s with heap := h', toks := tk } := I.kept hk
  have kz := isKeys_of pr
  have eb : acc'.toList = (ks.map fun x => x.2.1).map Value.ref := by rw [ea, List.map_map]; all_goals rfl
  have al : acc'.toList.length = kvs.length := by rw [ea, List.length_map]; omega
  have tups : ∀ v ∈ acc'.toList, ∃ (t : Addr) (ns : List Int), v = .ref t ∧ H t = some (.tup (ns.map V.int)) ∧ ns.length = d ∧ TS.Bd B ns := fun v hv => by
    rw [eb] at hv
    obtain ⟨b, hb, rfl⟩ := List.mem_map.mp hv
    obtain ⟨kv, m, e⟩ := isKeys_mem kz b hb
    obtain ⟨ns, ek, n1, n2⟩ := hB kv m
    refine ⟨b, ns, rfl, ?_, n1, n2⟩
    rw [e, ek, List.map_map]
    rfl
  refine wpAny_bind (wpAny_newList ?_ (by rw [al]; omega))
  have hoL : (h'.push (seqObj "list" acc'.toList.toArray 0)).get? h'.objs.size = some (seqObj "list" acc'.toList.toArray 0) := Heap.get?_push_size _ rfl
  have okT : TS.TupsOk (h'.push (seqObj "list" acc'.toList.toArray 0)) d B acc'.toList := fun v hv => by
    obtain ⟨t, ns, rfl, e, n1, n2⟩ := tups v hv
    have raw := tupI_raw I1 (SqT.of e)
    exact ⟨ns, raw.keeps fun b ob q _ => Heap.get?_push_of_some _ q, n1, n2⟩
  show wpAny _ _ _ _ _ { s with heap := h'.push (seqObj "list" acc'.toList.toArray 0), toks := tk }
  refine wpAny_bind (wpAny_holding (wpAny_call_entry PyProof.Rows.slot_list_sort ⟨_, hoL, rfl⟩ PyProof.Rows.entry_list_sort
    (TS.sort_tups (s := { s with heap := h'.push (seqObj "list" acc'.toList.toArray 0), toks := tk }) hoL (by rw [al]; exact h64) hd1 okT (fun v => TS.code B (TS.intsOf (h'.push (seqObj "list" acc'.toList.toArray 0)) v)) (fun v hv ns t => by
      show TS.code B (TS.intsOf _ v) = TS.code B ns
      rw [t.ints]) fun out a1 a2 => ⟨_, rfl, ?_⟩) (PyProof.Rows.args_list_sort _)))
  obtain ⟨e', he'⟩ := PyProof.Rows.sortedHeap_at (vs := acc'.toList) (out := out) hoL
  have refs : ∀ u ∈ out.toList, ∃ a, u = Value.ref a := fun u hu => by
    obtain ⟨t, _, e, _⟩ := tups u (a1.mem_iff.mp hu)
    exact ⟨t, e⟩
  have hp : (out.toList.map bkV).Perm ((ks.map fun x => x.2.1).map V.ref) := by
    have e1 : acc'.toList.map bkV = (ks.map fun x => x.2.1).map V.ref := by rw [eb, List.map_map]; rfl
    rw [← e1]
    exact a1.map bkV
  have hlen : (out.toList.map bkV).length ≤ sizeLine := by
    rw [hp.length_eq, List.length_map, List.length_map]
    omega
  refine wpAny_pure ⟨_, rfl, .ref h'.objs.size, upd H h'.objs.size (.lst (out.toList.map bkV)), I1.laid (t' := tk) (fun b u e => ?_) (Nat.le_refl _)
    (show ObjOk X.prog X.w _ _ _ (.lst (out.toList.map bkV)) from ⟨hlen, out.toList, e', bkV_vals refs, by rw [Array.toArray_toList]; exact he'⟩), rfl, q _ _ _ kz hp ?_ (I1.hok.fresh (Nat.le_refl _))⟩
  · have hb : b < h'.objs.size := Heap.lt_size e
    rw [PyProof.Rows.sortedHeap_old (Nat.ne_of_lt hb) (by rw [size_push']; exact Nat.lt_succ_of_lt hb)]
    exact Heap.get?_push_of_some _ e
  · rw [List.pairwise_map]
    refine List.Pairwise.imp (fun {u v} huv n m hn hm => ?_) a2
    obtain ⟨t, et, ht⟩ := hn
    obtain ⟨t', et', ht'⟩ := hm
    have eu := bkV_ref et
    have ev := bkV_ref et'
    have i1 : TS.intsOf (h'.push (seqObj "list" acc'.toList.toArray 0)) u = n := by
      rw [eu]
      exact ((tupI_raw I1 ht).keeps fun b ob q _ => Heap.get?_push_of_some _ q).ints
    have i2 : TS.intsOf (h'.push (seqObj "list" acc'.toList.toArray 0)) v = m := by
      rw [ev]
      exact ((tupI_raw I1 ht').keeps fun b ob q _ => Heap.get?_push_of_some _ q).ints
    rw [← i1, ← i2]
    exact huv
end
end L2
set_option Elab.async false
set_option linter.all false
set_option maxRecDepth 100000
set_option maxHeartbeats 2000000
namespace Y
open PySem PySem.Spec PyProof.Rows L2
abbrev PK := List (List Key × V)
def pk (t : Int × Int) : List Key := [Sum.inl t.1, Sum.inl t.2]
theorem pk_inj {t u : Int × Int} (h : pk t = pk u) : t = u := by
  unfold pk at h
  injection h with h1 h2
  injection h2 with h2 _
  injection h1 with h1
  injection h2 with h2
  exact Prod.ext h1 h2
/-- a tie between two of n places -/
def TieOk (n : Nat) (t : Int × Int) : Prop := 0 ≤ t.1 ∧ t.1 < n ∧ 0 ≤ t.2 ∧ t.2 < n ∧ t.1 ≠ t.2
/-- the pairs kept in a dict: ks, in the order they came -/
def PairsOk (n : Nat) (kvs : PK) (ks : List (Int × Int)) : Prop := kvs.map (·.1) = ks.map pk ∧ ks.Nodup ∧ ∀ t ∈ ks, TieOk n t
theorem PairsOk.nil (n : Nat) : PairsOk n [] [] := ⟨rfl, List.nodup_nil, fun t h => by cases h⟩
theorem PairsOk.len {n : Nat} {kvs : PK} {ks : List (Int × Int)} (h : PairsOk n kvs ks) : kvs.length = ks.length := by
  have := congrArg List.length h.1
  rwa [List.length_map, List.length_map] at this
theorem PairsOk.put {n : Nat} {kvs : PK} {ks : List (Int × Int)} (h : PairsOk n kvs ks) {t : Int × Int} (ht : TieOk n t) (v : V) : ∃ ks', PairsOk n (putK kvs (pk t) v) ks' ∧ ks'.length ≤ ks.length + 1 ∧ (∀ u ∈ ks, u ∈ ks') ∧ t ∈ ks' := by
  by_cases c : (kvs.any fun kv => decide (kv.1 = pk t)) = true
  · refine ⟨ks, ⟨?_, h.2.1, h.2.2⟩, Nat.le_succ _, fun u hu => hu, ?_⟩
    rotate_left
    · obtain ⟨kv, m, e⟩ := List.any_eq_true.mp c
      have m2 : pk t ∈ ks.map pk := by rw [← h.1]; exact List.mem_map.mpr ⟨kv, m, of_decide_eq_true e⟩
      obtain ⟨u, hu, e2⟩ := List.mem_map.mp m2
      rw [← pk_inj e2]; exact hu
    unfold putK
    rw [if_pos c, List.map_map, ← h.1]
    refine List.map_congr_left fun kv _ => ?_
    show (if kv.1 = pk t then (kv.1, v) else kv).1 = kv.1
    split <;> rfl
  · refine ⟨ks ++ [t], ⟨?_, ?_, fun u hu => ?_⟩, by rw [List.length_append]; exact Nat.le_refl _, fun u hu => List.mem_append.mpr (.inl hu), List.mem_append.mpr (.inr (List.mem_singleton.mpr rfl))⟩
    · unfold putK
      rw [if_neg c, List.map_append, List.map_append, h.1]
      rfl
    · rw [List.nodup_append]
      refine ⟨h.2.1, by simp, fun a ha b hb e => c ?_⟩
      rw [List.mem_singleton] at hb
      subst hb
      subst e
      have : pk a ∈ kvs.map (·.1) := by rw [h.1]; exact List.mem_map.mpr ⟨a, ha, rfl⟩
      obtain ⟨kv, m, e⟩ := List.mem_map.mp this
      exact List.any_eq_true.mpr ⟨kv, m, decide_eq_true e⟩
    · rcases List.mem_append.mp hu with hu | hu
      · exact h.2.2 u hu
      · rw [List.mem_singleton.mp hu]; exact ht
/-! ### ties as data -/
def tieD (t : Int × Int) : PyData := .tuple [.int t.1, .int t.2]
theorem dp_tie {K : PySem.W.Frag} {H : Hp} {b : Addr} {t : Int × Int} (h : SqT K H b [.int t.1, .int t.2]) : Dp K H (.ref b) (tieD t) := .tup h (.cons (.int _) (.cons (.int _) .nil))
/-- at y: the tie t -/
def TieAt (K : PySem.W.Frag) (H : Hp) (y : V) (t : Int × Int) : Prop := TupI K H y [t.1, t.2]
theorem TieAt.dp {K : PySem.W.Frag} {H : Hp} {y : V} {t : Int × Int} (h : TieAt K H y t) : Dp K H y (tieD t) := by
  obtain ⟨b, rfl, h⟩ := h
  exact dp_tie h
/-- a row of ties -/
def TiesOk (n : Nat) (ts : List (Int × Int)) : Prop := ts.Nodup ∧ (∀ t ∈ ts, TieOk n t) ∧ ts.Pairwise fun a b => TS.code 64 [a.1, a.2] ≤ TS.code 64 [b.1, b.2]
theorem keysP {H : Hp} {kvs : PK} {bs : List Addr} {n : Nat} {ks : List (Int × Int)} (r : IsKeys H kvs bs) (h : kvs.map (·.1) = ks.map pk) : Paired (fun (t : Int × Int) (b : Addr) => H b = some (.tup [.int t.1, .int t.2])) ks bs := by
  unfold IsKeys at r
  induction r generalizing ks with
  | nil =>
    cases ks with
    | nil => exact .nil
    | cons t ks => cases h
  | @cons kv b _ _ e t ih =>
    cases ks with
    | nil => cases h
    | cons u ks =>
      injection h with h1 h2
      refine .cons ?_ (ih h2)
      rw [e]
      have h1' : kv.1 = pk u := h1
      rw [h1']
      rfl
/-- sorted, the ties stand in order -/
theorem sorted_ties {K : PySem.W.Frag} {H : Hp} {bs : List Addr} {n : Nat} {ks : List (Int × Int)} (r : Paired (fun (t : Int × Int) (b : Addr) => H b = some (.tup [.int t.1, .int t.2])) ks bs) (nd : ks.Nodup) (ok : ∀ t ∈ ks, TieOk n t)
    {ys : List V} (pm : ys.Perm (bs.map V.ref)) (pw : ys.Pairwise (fun x y => ∀ n m, TupI K H x n → TupI K H y m → TS.code 64 n ≤ TS.code 64 m)) :
    ∃ ts : List (Int × Int), ts.Perm ks ∧ TiesOk n ts ∧ Paired (TieAt K H) ys ts := by
  let f : V → Int × Int := fun y => match y with
    | .ref b => (match H b with | some (.tup [.int i, .int j]) => (i, j) | _ => (0, 0))
    | _ => (0, 0)
  have fb : (bs.map V.ref).map f = ks := by
    clear nd ok pm pw
    induction r with
    | nil => rfl
    | @cons t b _ _ e _ ih =>
      rw [List.map_cons, List.map_cons, ih]
      show (match H b with | some (.tup [.int i, .int j]) => (i, j) | _ => (0, 0)) :: _ = _
      rw [e]
  have fa : ∀ y ∈ bs.map V.ref, TieAt K H y (f y) := by
    clear nd ok pm pw fb
    induction r with
    | nil => intro y hy; cases hy
    | @cons t b _ _ e _ ih =>
      intro y hy
      rcases List.mem_cons.mp hy with rfl | hy
      · refine ⟨b, rfl, ?_⟩
        show SqT K H b [.int (match H b with | some (.tup [.int i, .int j]) => (i, j) | _ => (0, 0)).1, .int (match H b with | some (.tup [.int i, .int j]) => (i, j) | _ => (0, 0)).2]
        rw [e]
        exact SqT.of e
      · exact ih y hy
  have p1 : (ys.map f).Perm ks := by rw [← fb]; exact pm.map f
  have at' : ∀ y ∈ ys, TieAt K H y (f y) := fun y hy => fa y (pm.mem_iff.mp hy)
  refine ⟨ys.map f, p1, ⟨(p1.nodup_iff).mpr nd, fun t ht => ok t (p1.mem_iff.mp ht), ?_⟩, ?_⟩
  · rw [List.pairwise_map]
    refine List.Pairwise.imp_of_mem (fun {a b} ha hb h => h _ _ (at' a ha) (at' b hb)) pw
  · clear p1 pm pw
    induction ys with
    | nil => exact .nil
    | cons y ys ih => exact .cons (at' y List.mem_cons_self) (ih fun z hz => at' z (List.mem_cons_of_mem _ hz))
theorem TieAt.kp {K : PySem.W.Frag} {H H' : Hp} {y : V} {t : Int × Int} (h : TieAt K H y t) (s : Kp H H') : TieAt K H' y t := by
  obtain ⟨b, e, h⟩ := h
  exact ⟨b, e, s.seqT h⟩
theorem ties_kp {K : PySem.W.Frag} {H H' : Hp} {ys : List V} {ts : List (Int × Int)} (h : Paired (TieAt K H) ys ts) (s : Kp H H') : Paired (TieAt K H') ys ts := by
  induction h with
  | nil => exact .nil
  | cons a _ ih => exact .cons (a.kp s) ih
theorem ties_dp {K : PySem.W.Frag} {H : Hp} {ys : List V} {ts : List (Int × Int)} (h : Paired (TieAt K H) ys ts) : DpAll K H ys (ts.map tieD) := by
  induction h with
  | nil => exact .nil
  | cons a _ ih => exact .cons a.dp ih
theorem ties_len {K : PySem.W.Frag} {H : Hp} {ys : List V} {ts : List (Int × Int)} (h : Paired (TieAt K H) ys ts) : ys.length = ts.length := Paired.length h
theorem ties_get {K : PySem.W.Frag} {H : Hp} {ys : List V} {ts : List (Int × Int)} (h : Paired (TieAt K H) ys ts) : ∀ {i : Nat} {y : V}, ys[i]? = some y → ∃ t, ts[i]? = some t ∧ TieAt K H y t := by
  induction h with
  | nil => intro i y e; simp at e
  | cons a _ ih =>
    intro i y e
    cases i with
    | zero => cases Option.some.inj e; exact ⟨_, rfl, a⟩
    | succ i => exact ih e
theorem bd_tie {n : Nat} {t : Int × Int} (h : TieOk n t) (hn : n ≤ 64) : TS.Bd 64 [t.1, t.2] := by
  obtain ⟨a, b, c, d, _⟩ := h
  intro x hx
  rcases List.mem_cons.mp hx with rfl | hx
  · exact ⟨a, by omega⟩
  · rw [List.mem_singleton.mp hx]; exact ⟨c, by omega⟩
end Y
set_option Elab.async false
set_option linter.all false
set_option maxRecDepth 100000
set_option maxHeartbeats 2000000
namespace Y
open PySem PySem.Spec PyProof.Rows L2
/-! ### is the tie in the row of ties? -/
theorem eqv_tie (t u : Int × Int) : PyData.eqv (tieD t) (tieD u) = decide (t = u) := by
  have e : PyData.eqv (tieD t) (tieD u) = (t.1 == u.1 && t.2 == u.2) := by simp [tieD, PyData.eqv, PyData.eqvAll]
  rw [e, Bool.eq_iff_iff]
  simp only [Bool.and_eq_true, beq_iff_eq, decide_eq_true_eq, Prod.ext_iff]
theorem any_tie (ts : List (Int × Int)) (u : Int × Int) : (ts.map tieD).any (fun y => PyData.eqv y (tieD u)) = decide (u ∈ ts) := by
  induction ts with
  | nil => rfl
  | cons t ts ih =>
    rw [List.map_cons, List.any_cons, ih, eqv_tie, Bool.eq_iff_iff]
    simp only [Bool.or_eq_true, decide_eq_true_eq, List.mem_cons]
    exact ⟨fun h => h.imp Eq.symm _root_.id, fun h => h.imp Eq.symm _root_.id⟩
theorem lay_ties : ∀ ts : List (Int × Int), PyData.canLayAll0 (ts.map tieD) = true
  | [] => rfl
  | t :: ts => by
    rw [List.map_cons]
    simp only [PyData.canLayAll0, lay_ties ts, tieD, PyData.canLay0, Bool.and_self]
theorem lay_tie (t : Int × Int) : (tieD t).canLay0 = true := by simp only [tieD, PyData.canLay0, PyData.canLayAll0, Bool.and_self]
theorem depth_tie (t : Int × Int) : (tieD t).depth ≤ 10 := by simp [tieD, PyData.depth, PyData.depthAll]
def rTieIn (K : PySem.W.Frag) (neg : Bool) : R2 := fun x y H Q => ∃ (a : Addr) (ys : List V) (ts : List (Int × Int)) (u : Int × Int), y = .ref a ∧ SqT K H a ys ∧ Paired (TieAt K H) ys ts ∧ TieAt K H x u ∧ Q (.bl (if neg then !decide (u ∈ ts) else decide (u ∈ ts))) H
section
variable {X : Cx}
theorem op_tieIn (hu : X.A.units + 64 < cLine) : OpR X (compareOp .In) (rTieIn X.K false) := by
  intro pins s σ H x y v u Q I rx ry h
  obtain ⟨a, ys, ts, t, rfl, ha, hp, ht, q⟩ := h
  obtain ⟨as, r1⟩ := Dp.reads I (tieD t) x v ht.dp rx
  obtain ⟨bs, r2⟩ := Dp.reads I (.tuple (ts.map tieD)) (.ref a) u (.tup ha (ties_dp hp)) ry
  have := depth_tie t
  exact SeqAt.in_tuple_reads r2 r1 (lay_ties ts) (lay_tie t) (by have := Nat.min_le_right (PyData.depthAll (ts.map tieD)) (tieD t).depth; omega) ⟨.bl _, H, I, rfl, by rw [any_tie]; exact q⟩
theorem op_tieNotIn (hu : X.A.units + 64 < cLine) : OpR X (compareOp .NotIn) (rTieIn X.K true) := by
  intro pins s σ H x y v u Q I rx ry h
  obtain ⟨a, ys, ts, t, rfl, ha, hp, ht, q⟩ := h
  obtain ⟨as, r1⟩ := Dp.reads I (tieD t) x v ht.dp rx
  obtain ⟨bs, r2⟩ := Dp.reads I (.tuple (ts.map tieD)) (.ref a) u (.tup ha (ties_dp hp)) ry
  have := depth_tie t
  exact SeqAt.notIn_tuple_reads r2 r1 (lay_ties ts) (lay_tie t) (by have := Nat.min_le_right (PyData.depthAll (ts.map tieD)) (tieD t).depth; omega) ⟨.bl _, H, I, rfl, by rw [any_tie]; exact q⟩
/-- what is not come to -/
theorem ps_never {st : Stmt} : PS X st (fun _ _ _ => False) := ⟨fun pins s σ H D I h => h.elim⟩
theorem pe_never {e : Expr} : PE X e (fun _ _ _ => False) := ⟨fun pins s σ H Q I h => h.elim⟩
end
end Y
set_option Elab.async false
set_option linter.all false
set_option maxRecDepth 100000
set_option maxHeartbeats 2000000
/-! sorted(d) of a dict whose keys are tuples of ints: any number of them, of any lengths -/
namespace L2
open PySem PySem.Spec PyProof.Rows
section
variable {prog : Program} {w : World} {A : Around} {E : Value → Shared → Prop} {s : Shared} {Q : Bool → Shared → Prop}
theorem kat_intsL {b : Bool} : ∀ {xs ys : List Value} {ns ms : List Int} (i : Nat), IntsAre xs ns → IntsAre ys ms → Q (HT.lexLt ns ms) s → PySem.W.KatLex prog w A b (decide (xs.length < ys.length)) Q (xs.zip ys) i s
  | _, _, _, _, _, .nil, .nil, h => PySem.W.kat_nil h
  | _, _, _, _, _, .nil, .cons _ _ _, h => PySem.W.kat_nil h
  | _, _, _, _, _, .cons _ _ _, .nil, h => PySem.W.kat_nil h
  | _, _, _, _, i, .cons p t hx, .cons q u hy, h => by
    rw [HT.lexLt_cons] at h
    rename_i xs ns ys ms
    have e0 : decide ((Value.int p t :: xs).length < (Value.int q u :: ys).length) = decide (xs.length < ys.length) := decide_eq_decide.mpr (by rw [List.length_cons, List.length_cons]; omega)
    rw [e0]
    show PySem.W.KatLex prog w A b (decide (xs.length < ys.length)) Q ((Value.int p t, Value.int q u) :: xs.zip ys) i s
    refine PySem.W.kat_cons (wpAny_eqBool_int ?_)
    by_cases e : p = q
    · rw [if_pos e] at h
      rw [show (p == q) = true by rw [e]; exact beq_self_eq_true q]
      exact PySem.W.kat_yes (kat_intsL (i + 1) hx hy h)
    · rw [if_neg e] at h
      rw [show (p == q) = false by simpa using e]
      exact PySem.W.kat_no (TS.oneLt_ints _ h)
theorem tup_firsts {h : Heap} : ∀ vs : List Value, (∀ v ∈ vs, ∃ ns, TS.TupInts h v ns ∧ ns ≠ []) → ∃ fs, PySem.W.KatTups h vs fs ∧ fs.length = vs.length ∧ ∀ f ∈ fs, ∃ n t, f = Value.int n t
  | [], _ => ⟨[], PySem.W.KatTups.nil, rfl, fun f hf => by cases hf⟩
  | v :: vs, x => by
    obtain ⟨fs, k, hl, hi⟩ := tup_firsts vs fun u hu => x u (List.mem_cons_of_mem _ hu)
    obtain ⟨ns, ⟨a, xs, rfl, ⟨o, ho, hc, n, hd⟩, it⟩, hne⟩ := x v List.mem_cons_self
    obtain ⟨l⟩ := xs
    cases it with
    | nil => exact absurd rfl hne
    | cons z t it =>
      refine ⟨.int z t :: fs, .cons ho hc hd rfl k, by rw [List.length_cons, List.length_cons, hl], fun f hf => ?_⟩
      rcases List.mem_cons.mp hf with rfl | hf
      · exact ⟨z, t, rfl⟩
      · exact hi f hf
theorem rows_sortableO {a : Addr} {vs : List Value} (h2 : 2 ≤ vs.length) (hp : ∀ v ∈ vs, ∃ ns, TS.TupInts s.heap v ns ∧ ns ≠ []) (ha : ∀ o, s.heap.get? a = some o → o.cls ≠ .type "tuple") :
    SrtO.SortableO prog w A s a vs fun v u => HT.lexLt (TS.intsOf s.heap v) (TS.intsOf s.heap u) := by
  intro h' keep
  have tk : ∀ b o, s.heap.get? b = some o → o.cls = .type "tuple" → h'.get? b = some o := fun b o e c => keep b o (fun z => by subst z; exact ha o e c) e
  have hp' : ∀ v ∈ vs, ∃ ns, TS.TupInts h' v ns ∧ ns ≠ [] ∧ TS.intsOf s.heap v = ns := fun v hv => (let ⟨ns, t, n⟩ := hp v hv; ⟨ns, t.keeps tk, n, t.ints⟩)
  obtain ⟨fs, k1, k2, k3⟩ := tup_firsts vs fun v hv => (let ⟨ns, t, n, _⟩ := hp' v hv; ⟨ns, t, n⟩)
  refine ⟨tuples' true, fun Q E hq => ?_, fun p q hm hm' => ?_⟩
  · refine PySem.W.kat_kind (T := .type "int") k1 (by omega) (fun f hf => ?_) (by rfl) ?_
    · obtain ⟨x, t, rfl⟩ := k3 f hf
      exact PySem.W.Looks.of_pure rfl
    · have e : (Value.type "int" != Value.type "tuple") = true := by first | decide +kernel | rfl | decide
      rw [e]
      exact hq
  · obtain ⟨ns, t1, _, e1⟩ := hp' _ hm
    obtain ⟨ms, t2, _, e2⟩ := hp' _ hm'
    show wpAny (model prog w) A (keyLt' (tuples' true) p.1 q.1) (fun r s' => s' = { s with heap := h' } ∧ r = HT.lexLt (TS.intsOf s.heap p.1) (TS.intsOf s.heap q.1)) (fun _ _ => False) { s with heap := h' }
    rw [e1, e2]
    obtain ⟨b1, xs, f1, ⟨o1, g1, _, n1, d1⟩, i1⟩ := t1
    obtain ⟨b2, ys, f2, ⟨o2, g2, _, n2, d2⟩, i2⟩ := t2
    rw [f1, f2]
    exact PySem.W.kat_lt g1 d1 g2 d2 (kat_intsL 0 i1 i2 ⟨rfl, rfl⟩)
end
/-- the order of rows -/
def RowLe (x y : List Int) : Prop := HT.lexLt y x = false
/-- sorted(d), the keys of d tuples of ints: a new list of the key tuples, ascending -/
def rSortDR (K : PySem.W.Frag) : List V → Hp → VK → Prop := fun vs H Q => ∃ (a : Addr) (kvs : List (List Key × V)), vs = [V.ref a] ∧ Rd H a (.dT kvs) ∧ kvs.length ≤ 1000000 ∧ (∀ kv ∈ kvs, ∃ ns : List Int, kv.1 = ns.map Sum.inl ∧ (ns ≠ [] ∨ kvs.length < 2)) ∧
  ∀ (bs : List Addr) (ys : List V) (p : Addr), IsKeys H kvs bs → ys.Perm (bs.map V.ref) → ys.Pairwise (fun x y => ∀ n m, TupI K H x n → TupI K H y m → RowLe n m) → H p = none → Q (.ref p) (upd H p (.lst ys))
section
variable {X : Cx}
theorem cr_sortedDR (hc : X.calm = true) : CallR X (.builtin "sorted") (rSortDR X.K) := by
  intro pins s σ H xs us Q I r h
  obtain ⟨a, kvs, rfl, hd, hm, hB, q⟩ := h
  obtain ⟨u, rfl, rx⟩ := r.one
  cases rx
  obtain ⟨z, hs, ks, pr, o, es, ep, ho, hx, hdt, he, hn⟩ := (show ObjOk X.prog X.w H s.heap a (.dT kvs) from hd.ok I.hok)
  have l1 : es.size = ks.length := size_of_entries he
  have l2 : kvs.length = ks.length := Paired.length pr
  have szl : sizeLine = 16777216 := sizeLine_eq
  refine Calls.call_function_entry PyProof.Rows.kind_sorted PyProof.Rows.plain_sorted PyProof.Rows.entry_sorted (PyProof.Rows.args_sorted1 _) ?_
  unfold Builtin.«sorted»
  refine wpAny_bind (m := checkCount "sorted" 1 1 _) (wpAny_pure ?_)
  refine wpAny_bind (PySem.W.kdu_collect (A := X.A.in1) (kdl_raw hs hx hdt) (I.ok.hd hc) ho (by omega) fun h' tk acc' hk it => ?_)
  have ea : acc'.toList = ks.map fun x => Value.ref x.2.1 := by
    have hl : acc'.toList.length = ks.length := by rw [Array.length_toList, it.1]; exact l1
    apply List.ext_getElem?
    intro j
    rw [List.getElem?_map]
    cases hj : acc'.toList[j]? with
    | none =>
      rw [List.getElem?_eq_none (by have := List.getElem?_eq_none_iff.mp hj; omega)]
      rfl
    | some v =>
      obtain ⟨en, hen, hv⟩ := it.2 j v (by rw [← Array.getElem?_toList]; exact hj)
      have qe := entry_at he j
      rw [hen] at qe
      cases hb : ks[j]? with
      | none =>
        rw [hb] at qe
        exact nomatch (show some en = none from qe)
      | some b =>
        rw [hb] at qe
        rw [hv, (Option.some.inj qe : en = entryOfKey (tupleKind (mixKind X.prog X.w)) b)]
        rfl
  have I1 : Inv X pins σ H { s with heap := h', toks := tk } := I.kept hk
  have kz := isKeys_of pr
  have eb : acc'.toList = (ks.map fun x => x.2.1).map Value.ref := by rw [ea, List.map_map]; rfl
  have al : acc'.toList.length = kvs.length := by rw [ea, List.length_map]; omega
  have tups : ∀ v ∈ acc'.toList, ∃ (t : Addr) (ns : List Int), v = .ref t ∧ H t = some (.tup (ns.map V.int)) ∧ (ns ≠ [] ∨ kvs.length < 2) := fun v hv => by
    rw [eb] at hv
    obtain ⟨b, hb, rfl⟩ := List.mem_map.mp hv
    obtain ⟨kv, m, e⟩ := isKeys_mem kz b hb
    obtain ⟨ns, ek, n1⟩ := hB kv m
    refine ⟨b, ns, rfl, ?_, n1⟩
    rw [e, ek, List.map_map]
    rfl
  refine wpAny_bind (wpAny_newList ?_ (by rw [al]; omega))
  have hoL : (h'.push (seqObj "list" acc'.toList.toArray 0)).get? h'.objs.size = some (seqObj "list" acc'.toList.toArray 0) := Heap.get?_push_size _ rfl
  have raw : ∀ {t : Addr} {ns : List Int}, SqT X.K H t (ns.map V.int) → TS.TupInts (h'.push (seqObj "list" acc'.toList.toArray 0)) (.ref t) ns := fun e => (tupI_raw I1 e).keeps fun b ob q _ => Heap.get?_push_of_some _ q
  show wpAny _ _ _ _ _ { s with heap := h'.push (seqObj "list" acc'.toList.toArray 0), toks := tk }
  refine wpAny_bind (wpAny_holding (wpAny_call_entry PyProof.Rows.slot_list_sort ⟨_, hoL, rfl⟩ PyProof.Rows.entry_list_sort
    (SrtO.list_sort_ord (s := { s with heap := h'.push (seqObj "list" acc'.toList.toArray 0), toks := tk }) (NtL.swo_lexL fun v => TS.intsOf (h'.push (seqObj "list" acc'.toList.toArray 0)) v) hoL (by rw [al]; omega)
      (fun h2 => rows_sortableO (s := { s with heap := h'.push (seqObj "list" acc'.toList.toArray 0), toks := tk }) h2 (fun v hv => ?_) fun ob e z => ?_) fun out a2 a1 => ⟨_, rfl, ?_⟩) (PyProof.Rows.args_list_sort _)))
  · obtain ⟨t, ns, rfl, e, n1⟩ := tups v hv
    exact ⟨ns, raw (SqT.of e), n1.elim id fun z => absurd z (by omega)⟩
  · have e1 : some ob = some (seqObj "list" acc'.toList.toArray 0) := e.symm.trans hoL
    cases e1
    exact absurd (show (Value.type "list") = Value.type "tuple" from z) (by decide)
  have a1 := a1.perm
  obtain ⟨e', he'⟩ := PyProof.Rows.sortedHeap_at (vs := acc'.toList) (out := out.toArray) hoL
  have refs : ∀ u ∈ out, ∃ a, u = Value.ref a := fun u hu => by
    obtain ⟨t, _, e, _⟩ := tups u (a1.mem_iff.mp hu)
    exact ⟨t, e⟩
  have hp : (out.map bkV).Perm ((ks.map fun x => x.2.1).map V.ref) := by
    have e1 : acc'.toList.map bkV = (ks.map fun x => x.2.1).map V.ref := by rw [eb, List.map_map]; rfl
    rw [← e1]
    exact a1.map bkV
  have hlen : (out.map bkV).length ≤ sizeLine := by
    rw [hp.length_eq, List.length_map, List.length_map]
    omega
  refine wpAny_pure ⟨_, rfl, .ref h'.objs.size, upd H h'.objs.size (.lst (out.map bkV)), I1.laid (t' := tk) (fun b u e => ?_) (Nat.le_refl _)
    (show ObjOk X.prog X.w _ _ _ (.lst (out.map bkV)) from ⟨hlen, out, e', bkV_vals refs, he'⟩), rfl, q _ _ _ kz hp ?_ (I1.hok.fresh (Nat.le_refl _))⟩
  · have hb : b < h'.objs.size := Heap.lt_size e
    rw [PyProof.Rows.sortedHeap_old (Nat.ne_of_lt hb) (by rw [size_push']; exact Nat.lt_succ_of_lt hb)]
    exact Heap.get?_push_of_some _ e
  · rw [List.pairwise_map]
    refine List.Pairwise.imp (fun {u v} huv n m hn hm => ?_) a2
    obtain ⟨t, et, ht⟩ := hn
    obtain ⟨t', et', ht'⟩ := hm
    have huv : HT.lexLt (TS.intsOf (h'.push (seqObj "list" acc'.toList.toArray 0)) v) (TS.intsOf (h'.push (seqObj "list" acc'.toList.toArray 0)) u) = false := huv
    rw [bkV_ref et, bkV_ref et', (raw ht).ints, (raw ht').ints] at huv
    exact huv
end
end L2
set_option Elab.async false
set_option linter.all false
set_option maxRecDepth 100000
set_option maxHeartbeats 4000000
namespace Y
open PySem PySem.Spec PyProof.Rows L2
/-! ### sorted(xs) of a list or a tuple of tuples of ints: any number of them, of any lengths but none -/
def rSortRl (K : PySem.W.Frag) : List V → Hp → VK → Prop := fun vs H Q => ∃ (a : Addr) (xs : List V), vs = [V.ref a] ∧ SqA K H a xs ∧ xs.length ≤ 1000000 ∧ (∀ x ∈ xs, ∃ ns, TupI K H x ns ∧ ns ≠ []) ∧
  ∀ (ys : List V) (p : Addr), ys.Perm xs → ys.Pairwise (fun x y => ∀ n m, TupI K H x n → TupI K H y m → RowLe n m) → H p = none → Q (.ref p) (upd H p (.lst ys))
theorem cr_sortRl {X : Cx} : CallR X (.builtin "sorted") (rSortRl X.K) := by
  intro pins s σ H vs us Q I r h
  obtain ⟨a, xs, rfl, hs, h64, hx, q⟩ := h
  obtain ⟨u, rfl, rx⟩ := r.one
  cases rx
  obtain ⟨T, o, its, n, hT, ho, hc, hdt, rv⟩ := seq_raw I hs
  have sz : sizeLine = 16777216 := sizeLine_eq
  have hl : its.length = xs.length := rv.length.symm
  obtain ⟨e1, e2⟩ := bkV_refs rv fun x m => by
    obtain ⟨ns, ⟨t, e, _⟩, _⟩ := hx x m
    exact ⟨t, e⟩
  refine Calls.call_function_entry kind_sorted plain_sorted entry_sorted (args_sorted1 _) ?_
  unfold Builtin.«sorted»
  refine wpAny_bind (m := checkCount "sorted" 1 1 _) (wpAny_pure (wpAny_bind (wpAny_collect_seq a hT ho hc hdt (fun h' hk => ?_) (by rw [List.size_toArray]; omega))))
  rw [List.toList_toArray]
  have I1 : Inv X pins σ H { s with heap := h', toks := s.toks } := I.kept hk
  refine wpAny_bind (wpAny_newList ?_ (by omega))
  have at0 : (h'.push (seqObj "list" its.toArray 0)).get? h'.objs.size = some (seqObj "list" its.toArray 0) := Heap.get?_push_size _ rfl
  have raw : ∀ {x : V} {u : Value} {ns : List Int}, x = bkV u → TupI X.K H x ns → TS.TupInts (h'.push (seqObj "list" its.toArray 0)) u ns := fun {x u ns} e ht => by
    obtain ⟨t, et, ht⟩ := ht
    have eu := bkV_ref (e.symm.trans et)
    rw [eu]
    exact (tupI_raw I1 ht).keeps fun b o e _ => Heap.get?_push_of_some _ e
  show wpAny _ _ _ _ _ { s with heap := h'.push (seqObj "list" its.toArray 0) }
  refine wpAny_bind (wpAny_holding (wpAny_call_entry slot_list_sort ⟨_, at0, rfl⟩ entry_list_sort
    (SrtO.list_sort_ord (s := { s with heap := h'.push (seqObj "list" its.toArray 0) }) (NtL.swo_lexL fun v => TS.intsOf (h'.push (seqObj "list" its.toArray 0)) v) at0 (by omega)
      (fun h2 => rows_sortableO (s := { s with heap := h'.push (seqObj "list" its.toArray 0) }) h2 (fun v hv => ?_) fun ob e z => ?_) fun out a2 a1 => ⟨_, rfl, ?_⟩) (args_list_sort _)))
  · have hm : bkV v ∈ xs := by rw [e1]; exact List.mem_map.mpr ⟨v, hv, rfl⟩
    obtain ⟨ns, ht, n1⟩ := hx _ hm
    exact ⟨ns, raw rfl ht, n1⟩
  · have e1 : some ob = some (seqObj "list" its.toArray 0) := e.symm.trans at0
    cases e1
    exact absurd (show (Value.type "list") = Value.type "tuple" from z) (by decide)
  · have a1 := a1.perm
    obtain ⟨ep, he⟩ := sortedHeap_at (vs := its) (out := out.toArray) at0
    have hp : (out.map bkV).Perm xs := by
      rw [e1]
      exact a1.map bkV
    have h3 : ∀ u ∈ out, ∃ a, u = Value.ref a := fun u hu => e2 u (a1.mem_iff.mp hu)
    have fits : (out.map bkV).length ≤ sizeLine := by rw [hp.length_eq]; omega
    refine wpAny_pure ⟨_, rfl, .ref h'.objs.size, upd H h'.objs.size (.lst (out.map bkV)), I1.laid (t' := s.toks) (fun b u e => ?_) (Nat.le_refl _) ⟨fits, out, ep, bkV_vals h3, he⟩, rfl, q _ _ hp ?_ (I1.hok.fresh (Nat.le_refl _))⟩
    · have hb : b < h'.objs.size := Heap.lt_size e
      rw [sortedHeap_old (Nat.ne_of_lt hb) (by rw [size_push']; exact Nat.lt_succ_of_lt hb)]
      exact Heap.get?_push_of_some _ e
    · rw [List.pairwise_map]
      refine List.Pairwise.imp (fun {u v} huv n m hn hm => ?_) a2
      have huv : HT.lexLt (TS.intsOf (h'.push (seqObj "list" its.toArray 0)) v) (TS.intsOf (h'.push (seqObj "list" its.toArray 0)) u) = false := huv
      rw [(raw rfl hn).ints, (raw rfl hm).ints] at huv
      exact huv
end Y
set_option Elab.async false
set_option linter.all false
set_option maxRecDepth 100000
set_option maxHeartbeats 2000000
/-! the truth and the length of a dict by rows -/
namespace PySem
open Sem (wp)
section
variable {prog : Program} {w : World} {A : Around} {E : Value → Shared → Prop} {s : Shared} {d : Addr} {es : Array DictEntry} {ep : Nat}
theorem len_body_raw {Q : Value → Shared → Prop} (hd : (d == sysModules) = false) (hm : s.heap.DictRaw d es ep) (hfit : (es.size : Int) < 2 ^ 63)
    (h : Q (.int es.size (s.toks + 1)) { s with toks := s.toks + 1 + 1 }) : wpAny (model prog w) A (Builtin.«len» ⟨[.ref d], []⟩) (fun fin s' => ∃ r, fin = .done (.ret r) ∧ Q r s') E s := by
  unfold Builtin.«len»
  refine wpAny_bind (m := oneArg "len" _) (wpAny_pure ?_)
  refine wpAny_bind (m := callSpecial? (.ref d) (Str.ofString "__len__")) (wpAny_callSpecial?_slot (name := Str.ofString "__len__") hm.typeIs F.slot_dict_len (call_len_raw hd hm ?_))
  show wpAny _ _ _ _ _ { s with toks := s.toks + 1 }
  refine wpAny_bind (wpAny_holding (wpAny_pure ?_))
  refine wpAny_bind (wpAny_letGo ?_)
  show wpAny _ _ (if ((es.size : Nat) : Int) < 0 then _ else _) _ _ _
  rw [if_neg (by omega)]
  show wpAny _ _ (if ((es.size : Nat) : Int) ≥ 2 ^ 63 then _ else _) _ _ _
  rw [if_neg (by omega)]
  exact wpAny_bind (wpAny_mkInt (wpAny_pure ⟨_, rfl, h⟩))
theorem truthy_raw {Q : Bool → Shared → Prop} (hd : (d == sysModules) = false) (hm : s.heap.DictRaw d es ep) (hfit : (es.size : Int) < 2 ^ 63)
    (h : Q (decide (es.size ≠ 0)) { s with toks := s.toks + 1 + 1 }) : wpAny (model prog w) A (truthy (.ref d)) Q E s := by
  have hne : ((es.size : Int) != 0) = decide (es.size ≠ 0) := by
    by_cases c : es.size = 0
    · rw [c]; rfl
    · rw [decide_eq_true c]
      simp only [bne_iff_ne, ne_eq]
      omega
  have key : wpAny (model prog w) A (runValue (.builtin "len" ⟨[.ref d], []⟩)) (fun r s' => r = .int es.size (s.toks + 1) ∧ Q (decide (es.size ≠ 0)) s') E s := by
    refine wpAny_runValue (codeAny_builtin entry_len ?_)
    rw [Around.under_plainId plain_len _]
    exact wpAny_mono (len_body_raw (Q := fun r s' => r = .int es.size (s.toks + 1) ∧ Q (decide (es.size ≠ 0)) s') hd hm hfit ⟨rfl, h⟩)
      (fun fin s' h' => by obtain ⟨r, rfl, hq⟩ := h'; exact hq) fun _ _ e => e
  unfold truthy
  first
    | refine wpAny_bind (wpAny_callSpecial?_none (name := Str.ofString "__bool__") hm.typeIs noBool_dict ?_)
    | refine wpAny_bind (wpAny_pure (wpAny_bind (wpAny_callSpecial?_none (name := Str.ofString "__bool__") hm.typeIs noBool_dict ?_)))
  first
    | refine wpAny_bind (wpAny_specialOf (name := Str.ofString "__len__") hm.typeIs F.slot_dict_len.lookup ?_)
    | refine wpAny_bind (wpAny_pure (wpAny_bind (wpAny_specialOf (name := Str.ofString "__len__") hm.typeIs F.slot_dict_len.lookup ?_)))
  first
    | exact wpAny_bind (wpAny_mono key (fun r s' h' => by obtain ⟨rfl, hq⟩ := h'; exact wpAny_pure (hne ▸ hq)) fun _ _ e => e)
    | exact wpAny_bind (wpAny_pure (wpAny_bind (wpAny_mono key (fun r s' h' => by obtain ⟨rfl, hq⟩ := h'; exact wpAny_pure (hne ▸ hq)) fun _ _ e => e)))
end
end PySem
namespace L2
open PySem PySem.Spec PyProof.Rows
theorem tru_dT {X : Cx} : TruR X (fun x H Q => ∃ a kvs, x = .ref a ∧ H a = some (.dT kvs) ∧ Q (decide (kvs.length ≠ 0)) H) := by
  intro pins s σ H x v Q I rx h
  obtain ⟨a, kvs, rfl, e, q⟩ := h
  cases rx
  obtain ⟨z, hsys, ks, pr, o, es, ep, ho, hx, hdt, he, hn⟩ := (show ObjOk X.prog X.w H s.heap a (.dT kvs) from I.hok _ _ e)
  have hl := line63
  have l1 : es.size = ks.length := by
    have := congrArg List.length he
    rwa [Array.length_toList, List.length_map] at this
  have l2 : kvs.length = ks.length := Paired.length pr
  exact truthy_raw hsys ⟨o, ho, hx, hdt⟩ (by omega) ⟨H, I.tok _, by rw [l1, ← l2]; exact q⟩
theorem call_lenT {X : Cx} : CallR X (.builtin "len") (fun xs H Q => ∃ a kvs, xs = [V.ref a] ∧ H a = some (.dT kvs) ∧ Q (.int (kvs.length : Nat)) H) := by
  intro pins s σ H xs us Q I r h
  obtain ⟨a, kvs, rfl, e, q⟩ := h
  obtain ⟨u, rfl, rx⟩ := r.one
  cases rx
  obtain ⟨z, hsys, ks, pr, o, es, ep, ho, hx, hdt, he, hn⟩ := (show ObjOk X.prog X.w H s.heap a (.dT kvs) from I.hok _ _ e)
  have hl := line63
  have l1 : es.size = ks.length := by
    have := congrArg List.length he
    rwa [Array.length_toList, List.length_map] at this
  have l2 : kvs.length = ks.length := Paired.length pr
  exact Calls.call_function_entry kind_len plain_len entry_len (args_len1 _) (len_body_raw hsys ⟨o, ho, hx, hdt⟩ (by omega) ⟨.int (kvs.length : Nat), H, I.tok _, ⟨_, by rw [l1, ← l2]⟩, q⟩)
end L2
set_option Elab.async false
set_option linter.all false
set_option maxRecDepth 100000
set_option maxHeartbeats 2000000
/-! several clauses «except C as n», all with one name -/
namespace Y
open PySem PySem.Spec PyProof.Rows L2
abbrev Cl := Value × (Addr → Value → Option Addr → TS)
/-- what the clauses wish, one behind the other -/
def wEach (K : PySem.W.Frag) (i : Nat) (Wout : WX) (D : Ends) : List Cl → WX
  | [] => Wout
  | p :: r => wAs K p.1 i p.2 (wEach K i Wout D r) D
inductive Clauses (X : Cx) (n : Str) : List ExceptHandler → List Cl → Prop
  | nil : Clauses X n [] []
  | cons {x : Str} {c : Value} {ts : Addr → Value → Option Addr → TS} {s₁ : Stmt} {ss : List Stmt} {p1 p2 : Pos} {hs : List ExceptHandler} {l : List Cl} (nm : Names X x c)
      (su : ∀ (a : Addr) (oe : Obj) (cls : Value) (d : Option Addr) (pn : List (Addr × Obj)), Zc cls d oe → (∃ vs, oe.data = .fields vs) → PSs (X.suite a ((a, oe) :: pn)) (s₁ :: ss) (ts a cls d)) (r : Clauses X n hs l) :
      Clauses X n (.ExceptHandler (some (.Name x p1)) (some n) (s₁ :: ss) p2 :: hs) ((c, ts) :: l)
section
variable {X : Cx} {n : Str} {i : Nat} {body : List Stmt} {hs : List ExceptHandler} {h₁ : ExceptHandler} {l : List Cl} {pos : Pos} {tb : WX → TS} {Wout : WX}
theorem ps_try_each (stk : X.stack = X.env :: X.outer) (frm : X.env.frame = some X.env.locals) (nd : X.N.Nodup) (hi : X.N[i]? = some n) (loc : X.env.kindOf n = some .local) (tk : Takes X Wout)
    (hb : ∀ (W : WX) (pn : List (Addr × Obj)) (xe : Value → Shared → Prop), Takes (X.tr pn xe) W → PassesOwn (model X.prog X.w) X.A X.env xe → PSs (X.tr pn xe) body (tb W)) (hh : Clauses X n (h₁ :: hs) l) :
    PS X (.Try body (h₁ :: hs) [] [] pos) (fun D σ H => tb (wEach X.K i Wout D l) D σ H) := by
  refine ⟨fun pins s σ H D I h => ?_⟩
  have okX := I.ok
  have frs' : X.A.frames = some (X.env :: X.outer) := by rw [okX.frames, stk]
  refine wpAny_Try_except (wpAny_mono ((hb (wEach X.K i Wout D l) (X.pn ++ pins) (fun e s₁ => wpAny (model X.prog X.w) X.A (noteFrame e X.env) (fun _ s₂ => wpAny (model X.prog X.w) X.A (setFlight e none)
    (fun _ s₃ => wpAny (model X.prog X.w) X.A (handleBy e X.env (h₁ :: hs)) (SP X pins D) X.xe s₃) X.xe s₂) X.xe s₁) (fun u s' caught => ?_) PassesOwn.looking).run [] s σ H D (I.toTry _) h) (fun f s1 fine => ?_) (fun e s1 z => z))
  · obtain ⟨a, B, sI, pins', σ', H', cls, d, rfl, J', nb, up, sky, na, os, ag, wish⟩ := caught
    have J : Inv X pins σ' H' sI := J'.ofTry okX
    show wpAny (model X.prog X.w) X.A (noteFrame (.ref a) X.env) _ _ _
    refine Sky.land Zc.steady frs' frm (by rw [← stk]; exact sky) fun h3 fl3 up3 => ?_
    have J3 : Inv X pins σ' H' { s' with heap := h3 } := J.landed nb fl3.1 (up.trans up3) os ag
    obtain ⟨o3, v3, at3, zc3, fd3⟩ := fl3.there
    have far : a ∉ frs (X.env :: X.outer) := fun hm => by
      obtain ⟨_, o', e', other⟩ := fl3.2.2.1.mem hm
      rw [at3] at e'; cases e'
      exact other _ fd3
    have nL : a ≠ X.env.locals := fun z => far (List.mem_filterMap.mpr ⟨X.env, List.mem_cons_self, by rw [frm, z]⟩)
    have nF : a ∉ X.fs := fun hm => by
      obtain ⟨e, he, q⟩ := List.mem_filterMap.mp hm
      exact far (List.mem_filterMap.mpr ⟨e, .tail _ he, q⟩)
    have S3 := J3.suite at3 fd3 na nL nF
    have go : ∀ {ks : List ExceptHandler} {m : List Cl}, Clauses X n ks m → wEach X.K i Wout D m cls d σ' H' → wpAny (model X.prog X.w) X.A (handleBy (.ref a) X.env ks) (SP X pins D) X.xe { s' with heap := h3 } := by
      intro ks m hk
      induction hk with
      | nil =>
        intro w
        refine wpAny_handleBy_nil ?_
        obtain ⟨_, _, _, oe, vs, T, oT, ts', he, _, hd, h1, _⟩ := id fl3
        unfold PySem.passOn
        refine wpAny_bind (wpAny_field he hd h1 ?_)
        rw [if_neg (show ¬ ((Value.ref T == Value.none) = true) by simp)]
        have last : wpAny (model X.prog X.w) X.A (setFlight (.ref a) X.env.frame) (fun _ s4 => wpAny (model X.prog X.w) X.A (throw (.ref a) : Sem Flow) (SP X pins D) X.xe s4) X.xe { s' with heap := h3 } := by
          rw [frm]
          exact HandSPX.setFlight_upZ fl3 fun h4 hh4 up4 => wpAny_throw (tk _ _ ⟨a, B, sI, pins, σ', H', cls, d, rfl, J, nb, (up.trans up3).trans up4, .inr (.inr (by rw [stk]; exact hh4)), na, os, ag, w⟩)
        first
          | exact wpAny_bind (wpAny_pure (wpAny_bind last))
          | exact wpAny_bind last
      | @cons x c ts s₁ ss p1 p2 hs2 l2 nm su r ih =>
        intro w
        obtain ⟨b, hit, yes, no⟩ := w
        have looks : PySem.W.Looks (model X.prog X.w) h3 (typeOf (.ref a)) cls := fun A Q E s k q => wpAny_typeOf_ref (k _ _ at3) (by rw [zc3.1]; exact q)
        have tells := PySem.W.exm_one (M := model X.prog X.w) (J3.kIn) looks hit
        have name : ∀ {Q : Value → Shared → Prop} {E : Value → Shared → Prop}, Q c { s' with heap := h3 } → wpAny (model X.prog X.w) (X.A.mark (some (.ref a))) (eval (.Name x p1) X.env) Q E { s' with heap := h3 } := fun {Q E} q => by
          obtain ⟨hg, hdbg, hm | ⟨hm, hv, hnn⟩⟩ := nm
          · exact ld_glob (X := X.suite a ((a, o3) :: (X.pn ++ pins))) S3 hg hm q hdbg
          · exact ld_blt (X := X.suite a ((a, o3) :: (X.pn ++ pins))) S3 hg hm hv q hnn hdbg
        refine wpAny_handleBy_cons (codeAny_handlers_test (name (tells.here ?_))) (fun q => nomatch q)
        cases b with
        | true =>
          refine codeAny_handlers_suite_as (HandSPX.lands_againZ fl3 fun h4 fl4 up4 => ?_)
          have J4 : Inv X pins σ' H' { s' with heap := h4 } := J.landed nb fl4.1 ((up.trans up3).trans up4) os ag
          obtain ⟨o4, v4, at4, zc4, fd4⟩ := fl4.there
          have S4 := J4.suite at4 fd4 na nL nF
          refine store_ok (X := X.suite a ((a, o4) :: (X.pn ++ pins))) (v := .ref a) S4 nd hi (.inl loc) rfl (fun s5 S5 => ?_) (.inr loc)
          refine wpAny_mono ((su a o4 cls d (X.pn ++ pins) zc4 ⟨_, fd4⟩).run [] s5 _ H' _ S5 (yes rfl a na)) (fun f s6 out => ?_) (fun _ _ z => z.elim)
          have off : ∀ {σ6 : L2.St} {H6 : Hp} {Q : Shared → Prop}, Inv (X.suite a ((a, o4) :: (X.pn ++ pins))) [] σ6 H6 s6 → (∀ s7, Inv X pins (σ6.set i none) H6 s7 → Q s7) →
              wpAny (model X.prog X.w) X.A (do bindName X.env n .none; unbindBehindTheSuite X.env n p2) (fun _ s7 => Q s7) X.xe s6 := fun {σ6 H6 Q} S6 hq => gone_ok (S6.unsuite okX) nd hi loc hq
          cases f with
          | next => obtain ⟨σ6, H6, S6, q6⟩ := out; exact off S6 fun s7 J7 => ⟨_, _, J7, q6⟩
          | brk => obtain ⟨σ6, H6, S6, q6⟩ := out; exact off S6 fun s7 J7 => ⟨_, _, J7, q6⟩
          | cont => obtain ⟨σ6, H6, S6, q6⟩ := out; exact off S6 fun s7 J7 => ⟨_, _, J7, q6⟩
          | ret u => obtain ⟨v6, σ6, H6, S6, r6, q6⟩ := out; exact off S6 fun s7 J7 => ⟨_, _, _, J7, r6, q6⟩
        | false => exact ih (no rfl)
    exact go hh wish
  · cases f with
    | next => obtain ⟨σ2, H2, J2, q⟩ := fine; exact wpAny_execs_nil ⟨σ2, H2, J2.ofTry okX, q⟩
    | brk => obtain ⟨σ2, H2, J2, q⟩ := fine; exact ⟨σ2, H2, J2.ofTry okX, q⟩
    | cont => obtain ⟨σ2, H2, J2, q⟩ := fine; exact ⟨σ2, H2, J2.ofTry okX, q⟩
    | ret u => obtain ⟨v, σ2, H2, J2, r, q⟩ := fine; exact ⟨v, σ2, H2, J2.ofTry okX, r, q⟩
end
end Y
set_option Elab.async false
set_option linter.all false
set_option maxRecDepth 100000
set_option maxHeartbeats 2000000
namespace Y
open PySem PySem.Spec PyProof.Rows L2
theorem flat_intsV (ys : List Int) : (ys.map V.int).all flatV = true := by
  rw [List.all_map, List.all_eq_true]
  intro y _
  rfl
/-- t.index(z) in a tuple of ints: its first place -/
def rTupIx (K : PySem.W.Frag) : V → List V → Hp → VK → Prop := fun x xs H Q => ∃ (p : Addr) (ys : List Int) (z : Int) (j : Nat), x = .ref p ∧ xs = [.int z] ∧ SqT K H p (ys.map V.int) ∧ ys[j]? = some z ∧ (∀ m, m < j → ys[m]? ≠ some z) ∧ Q (.int (j : Nat)) H
theorem mt_tupIx {X : Cx} : MtR X "tuple.index" (rTupIx X.K) := by
  intro pins s σ H x xs v us Q I rx rs h
  obtain ⟨p, ys, z, j, rfl, rfl, hq, hy, hno, q⟩ := h
  cases rx
  obtain ⟨u, rfl, t, rfl⟩ := vals1 rs
  obtain ⟨its, r, ⟨⟨cls, dd, dt, sl⟩, ho, hc, n, hd⟩, hz⟩ := I.tuple hq
  simp only at hc hd
  subst hc hd
  have len : its.toArray.size = ys.length := by rw [List.size_toArray, ← r.length, List.length_map]
  have itm : ∀ (m : Nat) (hm : m < its.toArray.size), ∃ y t', ys[m]? = some y ∧ its.toArray[m] = Value.int y t' := fun m hm => by
    have hm' : m < ys.length := by rw [← len]; exact hm
    obtain ⟨w, hw, t', hw'⟩ := r.get (i := m) (x := .int ys[m]) (by simp [hm'])
    exact ⟨ys[m], t', List.getElem?_eq_getElem hm', by have e := (List.getElem?_eq_some_iff.mp hw).2; rw [← hw', ← e]; simp⟩
  have hj : j < its.toArray.size := by rw [len]; exact (List.getElem?_eq_some_iff.mp hy).1
  refine call_meets PySem.F.slot_tuple_index ⟨_, ho, rfl⟩ PySem.F.entry_tuple_index (PySem.F.args_tuple_index_2 _ _) (TI.tuple_indexAt p its.toArray n dd sl (.int z t) (eqU (.int z)) j hj ?_ ?_)
    ⟨ho, fun w hw => mem_eqAt (x := .int z) ⟨t, rfl⟩ rfl r (flat_intsV ys) w (by simpa using hw), ⟨.int (j : Nat), H, I.tok _, ⟨_, rfl⟩, q⟩⟩
  · obtain ⟨y, t', h1, h2⟩ := itm j hj
    rw [hy] at h1
    cases h1
    rw [h2]
    show (z == z) = true
    exact beq_self_eq_true z
  · intro m hm hmj
    obtain ⟨y, t', h1, h2⟩ := itm m hm
    rw [h2]
    show (y == z) = false
    exact beq_eq_false_iff_ne.mpr fun e => hno m hmj (by rw [h1, e])
end Y
set_option Elab.async false
set_option linter.all false
set_option maxRecDepth 100000
set_option maxHeartbeats 2000000
/-! tuples that are known to have no dict of their own: their methods can be called -/
namespace Y
open PySem PySem.Spec PyProof.Rows L2
def PlT (H : Hp) (a : Addr) : Prop := ∃ (o : Obj) (u : HO), H a = some (.frz o u) ∧ o.dict = none ∧ o.cls = .type "tuple"
/-- a tuple just made -/
def NewT (H : Hp) (a : Addr) (ys : List V) (H' : Hp) : Prop := ∃ o : Obj, H a = none ∧ H' = upd H a (.frz o (.tup ys)) ∧ o.dict = none ∧ o.cls = .type "tuple"
section
variable {K : PySem.W.Frag} {H H' : Hp} {a : Addr} {ys : List V}
theorem NewT.sq (h : NewT H a ys H') : SqT K H' a ys := by
  obtain ⟨o, _, rfl, _⟩ := h
  exact .inl (.inr ⟨o, upd_same⟩)
theorem NewT.pl (h : NewT H a ys H') : PlT H' a := by
  obtain ⟨o, _, rfl, h1, h2⟩ := h
  exact ⟨o, _, upd_same, h1, h2⟩
theorem NewT.same (h : NewT H a ys H') : Same H H' := by
  obtain ⟨o, n, rfl, _⟩ := h
  exact Same.new n
theorem PlT.kp (h : PlT H a) (s : Kp H H') : PlT H' a := by
  obtain ⟨o, u, e, r⟩ := h
  exact ⟨o, u, s _ _ e (fun _ z => by cases z), r⟩
end
def rTupF (K : PySem.W.Frag) : List V → Hp → VK → Prop := fun xs H Q => ∃ (p : Addr) (ys : List V), xs = [.ref p] ∧ ((SqL K H p ys ∧ ∀ l H', NewT H l ys H' → Q (.ref l) H') ∨ (SqT K H p ys ∧ Q (.ref p) H))
theorem call_tupF {X : Cx} : CallR X (.type "tuple") (rTupF X.K) := by
  intro pins s σ H xs us Q I r h
  obtain ⟨p, ys, rfl, h⟩ := h
  obtain ⟨u, rfl, rx⟩ := vals1 r
  cases rx
  rcases h with ⟨hq, q⟩ | ⟨hq, q⟩
  · obtain ⟨its, rv, pl, hz⟩ := I.list hq
    have hlen := rv.length
    refine call_tuple_list pl.isList (fun h' kp => ?_) (by rw [List.size_toArray]; omega)
    have J : Inv X pins σ H { s with heap := h' } := I.kept (t' := s.toks) kp
    have fr := J.hok.fresh (Nat.le_refl _)
    have at0 : (h'.push { cls := .type "tuple", data := .seq its.toArray }).get? h'.objs.size = some { cls := .type "tuple", data := .seq its.toArray } := Heap.get?_push_size _ rfl
    refine ⟨.ref h'.objs.size, upd H h'.objs.size (.frz { cls := .type "tuple", data := .seq its.toArray } (.tup ys)), J.laid (t' := s.toks) (fun b o e => Heap.get?_push_of_some _ e) (Nat.le_refl _) ⟨at0, hz, its, rv, IsTup.new _ _⟩, rfl, q _ _ ⟨_, fr, rfl, rfl, rfl⟩⟩
  · obtain ⟨its, rv, pl, hz⟩ := I.tuple hq
    exact call_tuple_same pl ⟨.ref p, H, I, rfl, q⟩
def tTM (to : TE) (t : TA) (r : V → List V → Hp → VK → Prop) : TE := fun σ H Q => to σ H fun x H1 => (∃ p, x = .ref p ∧ PlT H1 p) ∧ t σ H1 fun xs H2 => r x xs H2 Q
/-- t.m(e), t a tuple without a dict -/
theorem pe_tm {X : Cx} {o e : Expr} {es : List Expr} {to : TE} {t : TA} {name : Str} {apos cpos : Pos} {id : String} {r : V → List V → Hp → VK → Prop} (slot : Slot "tuple" name id) (ty : typeOf (.builtin id) = pure (.type "method_descriptor")) (rule : MtR X id r) (ho : PE X o to) (ha : PA X (e :: es) t)
    (base : attributeBase o name X.env (eval o X.env) = eval o X.env := by rfl)
    (few : ((backTo cpos (starEach (e :: es) X.env)).all (fun x => !x.1) && (backToKw cpos (keywordEach [] X.env)).all (fun x => x.1.isSome) && decide ((e :: es).length + ([] : List Keyword).length + (if ([] : List Keyword).isEmpty then 0 else 1) < 30)) = true := by rfl)
    (line : (apos.endLine == cpos.line) = true := by rfl) (hs : starEach (e :: es) X.env = (false, eval e X.env) :: starEach es X.env := by rfl) (plain : (backTo cpos (starEach es X.env)).any (·.1) = false := by rfl) :
    PE X (.Call (.Attribute o name apos) (e :: es) [] cpos) (tTM to t r) := by
  refine ⟨fun pins s σ H Q I h => wpAny_Call_method_late base few line rfl (thn (ho.run pins s σ H _ I h) fun v s1 hv => ?_)⟩
  obtain ⟨x, H1, I1, r1, ⟨p, rfl, o', u, eo, d0, c0⟩, q1⟩ := hv
  obtain rfl : v = Value.ref p := r1
  obtain ⟨e1, _⟩ := (show ObjOk X.prog X.w H1 s1.heap p (.frz o' u) from I1.hok p _ eo)
  refine ⟨"tuple", id, PySem.F.plainAttrs_tuple, slot, ty, ⟨o', e1, c0⟩, fun a z => by cases z; exact ⟨o', e1, d0⟩, ?_⟩
  have hA := ha.run cpos pins s1 σ H1 _ I1 q1
  rw [hs] at hA ⊢
  exact Calls.callWith_builtin (by show (false || (backTo cpos (starEach es X.env)).any (·.1)) = false; rw [plain]; rfl) (Calls.evalArgs_plain (thn hA fun us s2 ⟨vs, H2, I2, r2, q2⟩ => rule pins s2 σ H2 (.ref p) vs (.ref p) us Q I2 rfl r2 q2))
end Y
set_option Elab.async false
set_option linter.all false
set_option maxRecDepth 100000
set_option maxHeartbeats 2000000
namespace L2
open PySem PySem.Spec PyProof.Rows
/-! ### t[lo:hi] and t + u of tuples, whatever comes out new -/
def rSlU (K : PySem.W.Frag) : V → Option Int → Option Int → Hp → VK → Prop := fun x lo hi H Q => ∃ a xs, x = .ref a ∧ SqT K H a xs ∧ ∀ u H', SqT K H' u (cutV xs lo hi) → Same H H' → Q (.ref u) H'
theorem cut_whole {xs : List V} {lo hi : Option Int} (h : HT.sIx xs.length 0 lo = 0 ∧ HT.sIx xs.length xs.length hi = xs.length) : cutV xs lo hi = xs := by
  unfold cutV
  rw [h.1, h.2, List.drop_zero, Nat.sub_zero, List.take_length]
theorem sl_tupU {X : Cx} : SlR X (rSlU X.K) := by
  intro pins s σ H x v vl vu lo hi sl Q I rx hs pl pu h
  obtain ⟨a, xs, rfl, hx, k⟩ := h
  refine sl_tupA pins s σ H _ v vl vu lo hi sl Q I rx hs pl pu ⟨a, xs, rfl, hx, fun hw => ?_, fun _ p hp => k p _ (SqT.of upd_same) (Y.Same.new hp)⟩
  have := k a H (by rw [cut_whole hw]; exact hx) (fun _ _ e => e)
  exact this
def rCatU (K : PySem.W.Frag) : R2 := fun x y H Q => ∃ a b xs ys, x = .ref a ∧ y = .ref b ∧ SqT K H a xs ∧ SqT K H b ys ∧ xs.length + ys.length ≤ sizeLine ∧ ∀ u H', SqT K H' u (xs ++ ys) → Same H H' → Q (.ref u) H'
theorem op_catU {X : Cx} : OpR X (binaryOp .Add) (rCatU X.K) := by
  intro pins s σ H x y v u Q I rx ry h
  obtain ⟨a, b, xs, ys, rfl, rfl, ha, hb, hz, k⟩ := h
  refine op_catA pins s σ H _ _ v u Q I rx ry ⟨a, b, xs, ys, rfl, rfl, ha, hb, hz, fun e => ?_, fun _ e => ?_, fun _ _ p hp => k p _ (SqT.of upd_same) (Y.Same.new hp)⟩
  · subst e
    exact k b H hb (fun _ _ e => e)
  · subst e
    exact k a H (by rw [List.append_nil]; exact ha) (fun _ _ e => e)
theorem cut_d1 (xs : List V) : cutV xs (some 1) none = xs.drop 1 := by
  unfold cutV
  have e := HT.sIx_nat xs.length 0 1
  rw [HT.sIx_none, show (some (1 : Int)) = some ((1 : Nat) : Int) from rfl, e, List.take_of_length_le (by rw [List.length_drop]; exact Nat.le_refl _)]
  cases xs with
  | nil => rfl
  | cons a xs => rw [List.length_cons, Nat.min_eq_left (by omega)]
theorem cut_t1 (xs : List V) : cutV xs none (some 1) = xs.take 1 := by
  unfold cutV
  have e := HT.sIx_nat xs.length xs.length 1
  rw [HT.sIx_none, show (some (1 : Int)) = some ((1 : Nat) : Int) from rfl, e, List.drop_zero, Nat.sub_zero]
  cases xs with
  | nil => rfl
  | cons a xs => rw [List.length_cons, Nat.min_eq_left (by omega)]
end L2
namespace Y
open PySem L2
theorem cut_to {xs : List V} {d : Int} (h0 : 0 ≤ d) (h1 : d ≤ xs.length) : cutV xs none (some d) = xs.take d.toNat := by
  obtain ⟨k, rfl⟩ : ∃ k : Nat, d = (k : Int) := ⟨d.toNat, by omega⟩
  unfold cutV
  rw [HT.sIx_none, List.drop_zero, HT.sIx_nat, Nat.sub_zero, Nat.min_eq_left (by omega)]
  rfl
theorem cut_from {xs : List V} {d : Int} (h0 : 0 ≤ d) (h1 : d ≤ xs.length) : cutV xs (some d) none = xs.drop d.toNat := by
  obtain ⟨k, rfl⟩ : ∃ k : Nat, d = (k : Int) := ⟨d.toNat, by omega⟩
  unfold cutV
  rw [HT.sIx_none, HT.sIx_nat, Nat.min_eq_left (by omega)]
  exact List.take_of_length_le (by rw [List.length_drop]; exact Nat.le_refl _)
end Y
set_option Elab.async false
set_option linter.all false
set_option maxRecDepth 100000
set_option maxHeartbeats 2000000
namespace L2
open PySem PySem.Spec PyProof.Rows
/-! ### slices of tuples, read within a block; t[:hi:-1] -/
theorem sl_tupUK {X : Cx} {K : PySem.W.Frag} (eK : X.K = K) : SlR X (rSlU K) := by
  subst eK
  exact sl_tupU
theorem op_catUK {X : Cx} {K : PySem.W.Frag} (eK : X.K = K) : OpR X (binaryOp .Add) (rCatU K) := by
  subst eK
  exact op_catU
def tRevU (K : PySem.W.Frag) (te : TE) (th : TO) : TE := fun σ H Q => te σ H fun x H1 => th σ H1 fun o H2 => ∃ a xs, x = .ref a ∧ SqT K H2 a xs ∧ (o = none ∨ o = some 0) ∧ ∀ u H', SqT K H' u (xs.drop (HT.rvN o)).reverse → Same H2 H' → Q (.ref u) H'
theorem pe_revU {X : Cx} {K : PySem.W.Frag} {e : Expr} {te : TE} {hi : Option Expr} {th : TO} {k : Nat} {p1 p2 p3 pos : Pos} (eK : X.K = K) (he : PE X e te) (hh : PO X hi th)
    (hsu : ∀ a sl, subscripted (.Slice none hi (some (.UnaryOp .USub (.Constant (.int 1) k p1) p2)) p3) false (.ref a) (.ref sl) = operate [.ref a, .ref sl] (getItem (.ref a) (.ref sl)) := by intro _ _; with_unfolding_all rfl)
    (mono : ∀ σ H Q Q', (∀ o H1, Q o H1 → Q' o H1) → th σ H Q → th σ H Q') (monoE : ∀ σ H Q Q', (∀ o H1, Q o H1 → Q' o H1) → te σ H Q → te σ H Q') :
    PE X (.Subscript e (.Slice none hi (some (.UnaryOp .USub (.Constant (.int 1) k p1) p2)) p3) pos) (tRevU K te th) := by
  subst eK
  refine ⟨fun pins s σ H Q I h => (pe_revT he hh hsu).run pins s σ H Q I (monoE _ _ _ _ (fun x H1 h => mono _ _ _ _ (fun o H2 h => ?_) h) h)⟩
  obtain ⟨a, xs, e1, e2, e3, k⟩ := h
  exact ⟨a, xs, e1, e2, e3, fun p hp => k p _ (SqT.of upd_same) (Y.Same.new hp)⟩
end L2
set_option Elab.async false
set_option linter.all false
set_option maxRecDepth 100000
set_option maxHeartbeats 2000000
/-! own errors with one field or two, raised -/
namespace Y
open PySem PySem.Spec PyProof.Rows L2
/-- what is raised: an error of the class at C with the fields fs -/
def RaisedF (C : Addr) (fs : List (Str × V)) (H : Hp) (E : XK) : Prop := ∀ (d : Addr) (H' : Hp), Same H H' → H' d = some (.xd fs) → E (.ref C) (some d) H'
theorem RaisedF.same {C : Addr} {fs : List (Str × V)} {H H' : Hp} {E : XK} (r : RaisedF C fs H E) (s : Same H H') : RaisedF C fs H' E := fun d H2 s2 e => r d H2 (s.trans s2) e
/-- an own error of one field: its name nm, its class at C, its first method at fI -/
structure XE1 (K : PySem.W.Frag) (mg : Str → Option Value) (nm fld : Str) (C fI : Addr) : Prop where
  g : mg nm = some (.ref C)
  xc : XcC K C
  i : PySem.W.findIn K (.ref C) "__init__" = some (some (.ref fI))
  t : PySem.W.typeIn K (.ref fI) = some (.type "function")
  n : PySem.W.findIn K (.ref C) fld = some none
structure XE2 (K : PySem.W.Frag) (mg : Str → Option Value) (nm fld fld2 : Str) (C fI : Addr) : Prop where
  g : mg nm = some (.ref C)
  xc : XcC K C
  i : PySem.W.findIn K (.ref C) "__init__" = some (some (.ref fI))
  t : PySem.W.typeIn K (.ref fI) = some (.type "function")
  n : PySem.W.findIn K (.ref C) fld = some none
  n2 : PySem.W.findIn K (.ref C) fld2 = some none
def spX2 (C : Addr) (f g : Str) : Sp := fun vs H Q _ => ∃ (a : Addr) (v w : V), vs = [.ref a, v, w] ∧ H a = some (exo a C none) ∧
  ∀ dx H', H dx = none → dx ≠ a → (∀ b o, b ≠ a → H b = some o → H' b = some o) → H' a = some (exo a C (some dx)) → H' dx = some (exd dx [(g, w), (f, v)]) → Q .non H'
theorem mk2 {C : Addr} {f g : Str} {v w : V} {H1 : Hp} {Q : XK} (h : ∀ (d : Addr) (H' : Hp), Same H1 H' → H1 d = none → H' d = some (.xd [(g, w), (f, v)]) → Q (.ref C) (some d) H') :
    ([v, w] : List V).length ≤ 1000 ∧ ∀ a, H1 a = none → spX2 C f g (.ref a :: ([v, w] ++ [])) (upd H1 a (exo a C none))
      (fun u H2 => u = .non ∧ ∃ (d : Addr) (fs : List (Str × V)), H2 a = some (exo a C (some d)) ∧ H2 d = some (exd d fs) ∧ H1 d = none ∧ Q (.ref C) (some d) (upd (del H2 a) d (.xd fs))) (fun _ _ _ => False) := by
  refine ⟨by show 2 ≤ 1000; decide, fun a ha => ⟨a, v, w, rfl, upd_same, fun dx H2 hd hne st e1 e2 => ⟨rfl, dx, [(g, w), (f, v)], e1, e2, by rw [upd_ne hne] at hd; exact hd, ?_⟩⟩⟩
  have hd1 : H1 dx = none := by rw [upd_ne hne] at hd; exact hd
  refine h dx _ (fun b o e => ?_) hd1 upd_same
  have n1 : b ≠ dx := ne_of_none e hd1
  have n2 : b ≠ a := ne_of_none e ha
  rw [upd_ne n1, del_ne n2]
  exact st b o n2 (by rw [upd_ne n2]; exact e)
/-- raised: the reading of `raise C(v)` -/
theorem mkF1 {C : Addr} {f : Str} {v : V} {H1 : Hp} {Q : XK} (h : RaisedF C [(f, v)] H1 Q) :
    ([v] : List V).length ≤ 1000 ∧ ∀ a, H1 a = none → spX1 C f (.ref a :: ([v] ++ [])) (upd H1 a (exo a C none))
      (fun u H2 => u = .non ∧ ∃ (d : Addr) (fs : List (Str × V)), H2 a = some (exo a C (some d)) ∧ H2 d = some (exd d fs) ∧ H1 d = none ∧ Q (.ref C) (some d) (upd (del H2 a) d (.xd fs))) (fun _ _ _ => False) :=
  mk1 fun d H' s _ e => h d H' s e
end Y
namespace Y
open PySem
def top (i : Nat) : Stmt := PySem.Challenge.pw_slideyards_k30_whole_puzzles_made.main.body.getD i (.Pass ⟨0, 0, 0, 0⟩)
end Y
set_option Elab.async false
set_option linter.all false
set_option maxRecDepth 100000
set_option maxHeartbeats 4000000
namespace Y
open PySem L2
abbrev sPen : Stmt := top 37
abbrev sDraw : Stmt := top 38
abbrev sPick : Stmt := top 39
structure TxP (K : PySem.W.Frag) (mg : Str → Option Value) (fDraw : Addr) : Prop where
  int : mg "int" = none
  list : mg "list" = none
  len : mg "len" = none
  gDraw : mg "_law_draw" = some (.ref fDraw)
section
variable {P : Program} {w : World} {K : PySem.W.Frag} {mg : Str → Option Value} {base : Heap}
theorem scPen : FnScope ["_law_script", "_law_fold", "_law_cell"] ["_law_script"] (defScope sPen) := ⟨rfl, rfl, rfl, by decide +kernel, rfl, by decide +kernel, by decide +kernel⟩
theorem ok_pen {f fDraw : Addr} {fd : FuncData} (F : Fun K "_law_pen" "_law_pen" sPen f fd) (T : TxP K mg fDraw) : FnOk P w K mg base CX0 1 f fd ["_law_script"] (spPen K) := by
  refine F.ok scPen (fun vs H Q E h => ?_) (fun cdv A outer s H vs Q E hr h => ?_)
  · obtain ⟨a, ns, rfl, _⟩ := h
    rfl
  · obtain ⟨a, ns, rfl, hS, hlen, k⟩ := h
    refine ⟨_, pss_cons (ps_set (i := 1) scPen.nd rfl (Or.inl rfl) pe_int)
      (pss_cons (ps_for PassesOwn.never rfl (pi_list (pv 0)) (pg_name (i := 2) scPen.nd rfl (Or.inl rfl))
        (pss_one (ps_set (i := 1) scPen.nd rfl (Or.inl rfl) (pe_op op_mod (pe_callTy call_int1 (by rfl) T.int (by decide +kernel) (pa_cons (pe_op op_add (pe_op op_mul (pv 1) pe_int) (pv 2)) pa_nil)) pe_int))))
      (pss_one (ps_ret (pe_disp (pps_cons pe_str (pe_callTy call_list_of (by rfl) T.list (by decide +kernel) (pa_cons (pv 0) pa_nil)) (pps_cons pe_str pe_int (pps_cons pe_str pe_int (pps_cons pe_str pe_int (pps_cons pe_str (pv 1) pps_nil))))) (by rfl) (by rfl) (fun z => by cases z) (by decide))))), ?_⟩
    refine ⟨_, rfl, a, rfl, ⟨_, hS⟩, for_list (K := K) (a := a) (xs := ns.map V.int) (fun i σ H2 => ∃ (f : Int) (v : Option V), σ = [some (.ref a), some (.int f), v] ∧ H2 = H ∧ 0 ≤ f ∧ f < 1000000007)
      ⟨0, none, rfl, rfl, by decide, by decide⟩ (fun i σ H2 _ ⟨_, _, _, e, _⟩ => by rw [e]; exact hS) ?_ ?_⟩
    · rintro i y σ H2 hi ⟨f, v, rfl, rfl, h0, h1⟩
      obtain ⟨z, rfl⟩ : ∃ z, y = V.int z := by
        rw [List.getElem?_map] at hi
        cases e : ns[i]? with
        | none =>
          rw [e] at hi
          cases hi
        | some z =>
          rw [e] at hi
          exact ⟨z, (Option.some.inj hi).symm⟩
      refine ⟨_, rfl, _, _, rfl, rfl, .inl ⟨by omega, by omega⟩, _, rfl, _, _, rfl, rfl, .inl ⟨_, rfl, _, _, rfl, rfl, (by show (0 : Int) < 1000000007; decide), ?_⟩⟩
      exact ⟨_, _, rfl, rfl, Int.emod_nonneg _ (by decide), Int.emod_lt_of_pos _ (by decide)⟩
    · rintro σ H2 ⟨f, v, rfl, rfl, h0, h1⟩
      intro p hp
      refine ⟨_, rfl, a, _, rfl, .inl ((Same.new hp).seq hS), fun l hl => ?_⟩
      have hpl : p ≠ l := fun e => by rw [← e, upd_same] at hl; cases hl
      have hl0 : H2 l = none := by rw [upd_ne (Ne.symm hpl)] at hl; exact hl
      refine ⟨_, rfl, (by rw [upd_ne hpl]; exact upd_same), [(Sum.inr "cells", .ref l), (Sum.inr "at", .int 0), (Sum.inr "digits", .int 0), (Sum.inr "count", .int 0), (Sum.inr "fold", .int f)], rfl, (by show 5 ≤ 15; decide), ?_⟩
      refine k p l _ ⟨⟨ns, 0, 0, 0, f, ?_, ?_, hlen, by decide, by decide, by decide, by decide, h0, by omega⟩⟩ ?_ hp
      · rw [upd_same]
        exact congrArg (fun z => some (HO.dK z)) pen_merge
      · rw [upd_ne (Ne.symm hpl)]; exact upd_same
      · intro b o e
        rw [upd_ne (ne_of_none e hp), upd_ne (ne_of_none e hl0), upd_ne (ne_of_none e hp)]
        exact e
theorem scDraw : FnScope ["_law_pen_here", "_law_many", "_law_cell", "_law_digit", "_law_blend"] ["_law_pen_here", "_law_many"] (defScope sDraw) := ⟨rfl, rfl, rfl, by decide +kernel, rfl, by decide +kernel, by decide +kernel⟩
theorem ok_draw {f fDraw : Addr} {fd : FuncData} (F : Fun K "_law_draw" "_law_draw" sDraw f fd) (T : TxP K mg fDraw) : FnOk P w K mg base CX0 1 f fd ["_law_pen_here", "_law_many"] spDraw := by
  refine F.ok scDraw (fun vs H Q E h => ?_) (fun cdv A outer s H vs Q E hr h => ?_)
  · obtain ⟨p, l, m, b, rfl, _⟩ := h
    rfl
  · obtain ⟨p, l, m, b, rfl, hP, hm0, hm1, k⟩ := h
    have hu := hu_of hr
    obtain ⟨ns, a, g, c, f, hp, hl, hlen, ha, hg, hc, hcb, hf0, hf1⟩ := hP.ex
    refine ⟨_, pss_cons (ps_dput hu (pv 0) pe_str (pe_op op_add (pe_dget hu (pv 0) pe_str (fun _ _ => rfl)) pe_int) rfl)
      (C8.pss_cut (ps_if (PW.pt (pw_and (pt_cmpR op_eq (pe_dget hu (pv 0) pe_str (fun _ _ => rfl)) pe_int (nomark _)) (pw_and1 (pt_cmpR op_lt (pe_dget hu (pv 0) pe_str (fun _ _ => rfl)) (pe_callB call_len_seq (by rfl) T.len PySem.boot_len (pa_cons (pe_dget hu (pv 0) pe_str (fun _ _ => rfl)) pa_nil)) (nomark _)))))
        (pss_cons (ps_set (i := 2) scDraw.nd rfl (Or.inl rfl) (pe_ix ix_list (pe_dget hu (pv 0) pe_str (fun _ _ => rfl)) (pe_dget hu (pv 0) pe_str (fun _ _ => rfl)) (fun _ _ => rfl)))
        (pss_cons (ps_dput hu (pv 0) pe_str (pe_op op_add (pe_dget hu (pv 0) pe_str (fun _ _ => rfl)) pe_int) rfl)
        (pss_one (ps_if (pt_cmpR op_ge (pv 2) (pe_op op_pow pe_int pe_int) (nomark _))
          (pss_one (ps_dput hu (pv 0) pe_str (pe_op op_sub (pv 2) (pe_op op_pow pe_int pe_int)) rfl))
          (pss_one (ps_dput hu (pv 0) pe_str (pe_op op_mod (pe_callTy call_int1 (by rfl) T.int (by decide +kernel) (pa_cons (pe_op op_add (pe_op op_mul (pe_dget hu (pv 0) pe_str (fun _ _ => rfl)) pe_int) (pv 2)) pa_nil)) pe_int) rfl))))))
        pss_nil)
      (pss_cons (ps_if (pt_cmpR op_gt (pe_dget hu (pv 0) pe_str (fun _ _ => rfl)) pe_int (nomark _))
        (pss_cons (ps_set (i := 3) scDraw.nd rfl (Or.inl rfl) (pe_op op_mod (pe_callTy call_int1 (by rfl) T.int (by decide +kernel) (pa_cons (pe_dget hu (pv 0) pe_str (fun _ _ => rfl)) pa_nil)) (pv 1)))
        (pss_cons (ps_dput hu (pv 0) pe_str (pe_op op_fdivW (pe_dget hu (pv 0) pe_str (fun _ _ => rfl)) (pv 1)) rfl)
        (pss_one (ps_ret (pv 3)))))
        pss_nil)
      (pss_cons (ps_set (i := 4) scDraw.nd rfl (Or.inl rfl) (pe_op op_add (pe_op op_add (pe_dget hu (pv 0) pe_str (fun _ _ => rfl)) (pe_op op_mul (pe_dget hu (pv 0) pe_str (fun _ _ => rfl)) pe_int)) pe_int))
      (pss_one (ps_ret (pe_op op_mod (pe_op op_fdiv (pe_callTy call_int1 (by rfl) T.int (by decide +kernel) (pa_cons (pe_op op_mod (pe_op op_pow (pv 4) pe_int) pe_int) pa_nil)) pe_int) (pv 1))))))), ?_⟩
    have hlp : l ≠ p := ne_of hl hp (by intro z; cases z)
    have e1 : ∀ {a' g' c' f' : Int}, (upd H p (.dK (penD l a' g' c' f'))) p = some (.dK (penD l a' g' c' f')) := upd_same
    have mk : ∀ {a' g' c' f' : Int}, 0 ≤ a' → 0 ≤ g' → 0 ≤ c' → c' + (b : Int) ≤ 2 ^ 40 → 0 ≤ f' → f' < 2147483587 → Pen (upd H p (.dK (penD l a' g' c' f'))) p l b := fun h2 h3 h4 h5 h6 h7 =>
      ⟨ns, _, _, _, _, upd_same, by rw [upd_ne hlp]; exact hl, hlen, h2, h3, h4, h5, h6, h7⟩
    refine ⟨_, rfl, _, _, rfl, get_count hp, _, _, rfl, rfl, _, rfl, _, _, rfl, dput_count hp, ?_⟩
    refine ⟨fun σ' H' => ∃ (a' g' f' : Int) (v : Option V), σ' = [some (.ref p), some (.int m), v, none, none] ∧ H' = upd H p (.dK (penD l a' g' (c + 1) f')) ∧ 0 ≤ a' ∧ 0 ≤ g' ∧ 0 ≤ f' ∧ f' < 2147483587, ?_, ?_⟩
    · refine ⟨_, rfl, _, _, rfl, get_digits e1, rfl, _, rfl, ?_⟩
      refine ite2 (fun hd => ?_) (fun hd => ?_)
      · refine ⟨_, rfl, _, _, rfl, get_at e1, _, rfl, _, _, rfl, get_cells e1, l, _, rfl, .inl (.inl (.inl (by rw [upd_ne hlp]; exact hl))), _, _, rfl, rfl, _, rfl, ?_⟩
        refine ite2 (fun hd2 => ?_) (fun hd2 => ?_)
        · have hd3 : a < ((ns.map V.int).length : Int) := of_decide_eq_true hd2
          obtain ⟨y, hy, hy2⟩ := there_int ha hd3
          obtain ⟨z, hz, rfl⟩ := ints_at hy
          refine ⟨_, rfl, _, _, rfl, get_cells e1, _, rfl, _, _, rfl, get_at e1, l, _, a, _, rfl, rfl, .inl (.inl (by rw [upd_ne hlp]; exact hl)), hy2, ?_⟩
          refine ⟨_, rfl, _, _, rfl, get_at e1, _, _, rfl, rfl, _, rfl, _, _, rfl, dput_at, ?_⟩
          refine ⟨_, rfl, _, _, rfl, rfl, ⟨by decide, by decide, by decide⟩, _, _, rfl, rfl, _, rfl, ?_⟩
          refine ite2 (fun hd4 => ?_) (fun hd4 => ?_)
          · have hd5 : (10 : Int) ^ (18 : Int).toNat ≤ z := of_decide_eq_true hd4
            refine ⟨_, rfl, _, _, rfl, rfl, ⟨by decide, by decide, by decide⟩, _, _, rfl, rfl, _, rfl, _, _, rfl, dput_digits, ?_⟩
            exact ⟨_, _, _, _, rfl, rfl, by omega, by omega, hf0, hf1⟩
          · refine ⟨_, rfl, _, _, rfl, get_fold e1, _, _, rfl, rfl, .inl ⟨by omega, by omega⟩, _, rfl, _, _, rfl, rfl, .inl ⟨_, rfl, _, _, rfl, rfl, (by show (0 : Int) < 2147483587; decide), _, rfl, _, _, rfl, dput_fold, ?_⟩⟩
            exact ⟨_, _, _, _, rfl, rfl, by omega, hg, Int.emod_nonneg _ (by decide), Int.emod_lt_of_pos _ (by decide)⟩
        · exact ⟨_, _, _, _, rfl, rfl, ha, hg, hf0, hf1⟩
      · exact ⟨_, _, _, _, rfl, rfl, ha, hg, hf0, hf1⟩
    · rintro σ' H' ⟨a', g', f', v, rfl, rfl, ha', hg', hf0', hf1'⟩
      refine ⟨_, rfl, _, _, rfl, get_digits e1, _, _, rfl, rfl, _, rfl, ?_⟩
      refine ite2 (fun hd => ?_) (fun hd => ?_)
      · refine ⟨_, rfl, _, _, rfl, get_digits e1, .inl ⟨_, rfl, _, rfl, _, _, rfl, rfl, hm0, ?_⟩⟩
        refine ⟨_, rfl, _, _, rfl, get_digits e1, _, rfl, _, _, rfl, rfl, wide_div hm0 (b := 41) (by omega) (by decide) (by decide), _, rfl, _, _, rfl, dput_digits, ?_⟩
        refine ⟨_, rfl, ?_⟩
        exact k _ _ (Int.emod_nonneg _ (by omega)) (Int.emod_lt_of_pos _ hm0) (mk ha' (Int.ediv_nonneg hg' (by omega)) (by omega) (by omega) hf0' hf1') But.upd
      · refine ⟨_, rfl, _, _, rfl, get_fold e1, _, rfl, _, _, rfl, get_count e1, _, _, rfl, rfl, .inl ⟨by omega, by omega⟩, _, _, rfl, rfl, _, _, rfl, rfl, ?_⟩
        refine ⟨_, rfl, _, _, rfl, rfl, ⟨by decide, by decide, by omega⟩, _, _, rfl, rfl, (by show (0 : Int) < 2305843009213693951; decide), .inl ⟨_, rfl, _, _, rfl, rfl, ⟨by decide, by decide⟩, _, rfl, _, _, rfl, rfl, hm0, ?_⟩⟩
        exact k _ _ (Int.emod_nonneg _ (by omega)) (Int.emod_lt_of_pos _ hm0) (mk ha' hg' (by omega) (by omega) hf0' hf1') But.upd
theorem scPick : FnScope ["_law_pen_here", "_law_some"] ["_law_pen_here", "_law_some"] (defScope sPick) := ⟨rfl, rfl, rfl, by decide +kernel, rfl, by decide +kernel, by decide +kernel⟩
theorem ok_pick {f fDraw : Addr} {fd fdDraw : FuncData} (F : Fun K "_law_pick" "_law_pick" sPick f fd) (T : TxP K mg fDraw) (FD : Fun K "_law_draw" "_law_draw" sDraw fDraw fdDraw) (bD : Binds K fdDraw ["_law_pen_here", "_law_many"] []) :
    FnOk P w K mg base CX0 2 f fd ["_law_pen_here", "_law_some"] (spPick K) := by
  have GD : FnOk P w K mg base CX0 1 fDraw fdDraw ["_law_pen_here", "_law_many"] spDraw := ok_draw FD T
  refine F.ok scPick (fun vs H Q E h => ?_) (fun cdv A outer s H vs Q E hr h => ?_)
  · obtain ⟨p, q, l, xs, b, rfl, _⟩ := h
    rfl
  · obtain ⟨p, q, l, xs, b, rfl, hP, hl, hne, hz, k⟩ := h
    refine ⟨_, pss_one (ps_ret (pe_ix (IxR.or ix_list ix_tup) (pv 1) (pe_call GD hr (by rfl) T.gDraw FD.kp bD .nil pass0 (pa_cons (pv 0) (pa_cons (pe_callB call_len_seq (by rfl) T.len PySem.boot_len (pa_cons (pv 1) pa_nil)) pa_nil))) (fun _ _ => rfl))), ?_⟩
    have hpos := List.length_pos_iff.mpr hne
    obtain ⟨kvs, hpd⟩ := hP.there
    refine ⟨_, rfl, _, rfl, _, rfl, l, xs, rfl, hl, p, q, _, b, rfl, hP, by omega, by omega, fun n H' h0 h1 hP' hB => ?_⟩
    obtain ⟨y, hy, hy2⟩ := there_int h0 h1
    rcases hl with hl | hl
    · exact .inl ⟨l, xs, n, y, rfl, rfl, hB.seq hpd hl, hy2, k y _ _ hy hP' hB⟩
    · exact .inr ⟨l, xs, n, y, rfl, rfl, hB.seqT hpd hl, hy2, k y _ _ hy hP' hB⟩
end
end Y
set_option Elab.async false
set_option linter.all false
set_option maxRecDepth 100000
set_option maxHeartbeats 4000000
namespace Y
open PySem L2
abbrev sRing : Stmt := top 42
abbrev sStand : Stmt := top 43
abbrev sShuf : Stmt := top 999
structure TG (K : PySem.W.Frag) (mg : Str → Option Value) (fDraw : Addr) : Prop where
  p : TxP K mg fDraw
  range : mg "range" = none
  tuple : mg "tuple" = none
/-! ### promises -/
def spShuf (K : PySem.W.Frag) : Sp := fun vs H Q _ => ∃ (p c s : Addr) (xs : List V) (b : Nat), vs = [.ref p, .ref s] ∧ Pen H p c (b + xs.length) ∧ (SqL K H s xs ∨ SqT K H s xs) ∧ xs.length ≤ 1000 ∧
  ∀ q ys H', ys.Perm xs → H' q = some (.lst ys) → Kp H H' → Pen H' p c b → Q (.ref q) H'
/-- distinct places, three or more -/
def RingOk (n : Nat) (r : List Int) : Prop := r.Nodup ∧ (∀ x ∈ r, 0 ≤ x ∧ x < n) ∧ 3 ≤ r.length ∧ r.length ≤ n
def spRing (K : PySem.W.Frag) : Sp := fun vs H Q _ => ∃ (p c : Addr) (n b : Nat), vs = [.ref p, .int (n : Int)] ∧ Pen H p c (b + (n + 1)) ∧ 3 ≤ n ∧ n ≤ 100 ∧
  ∀ q r H', RingOk n r → H' q = some (.tup (r.map V.int)) → Kp H H' → Pen H' p c b → Q (.ref q) H'
section
variable {P : Program} {w : World} {K : PySem.W.Frag} {mg : Str → Option Value} {base : Heap} {fDraw : Addr}
/-! ### rows of ints -/
theorem map_nodup {r : List Int} : (r.map V.int).Nodup ↔ r.Nodup := by
  induction r with
  | nil => simp
  | cons a r ih =>
    rw [List.map_cons, List.nodup_cons, List.nodup_cons, ih]
    refine and_congr (not_congr ⟨fun h => ?_, fun h => List.mem_map.mpr ⟨a, h, rfl⟩⟩) Iff.rfl
    obtain ⟨b, hb, e⟩ := List.mem_map.mp h
    cases e
    exact hb
theorem rgV_mem {n : Nat} {v : V} (h : v ∈ rgV 0 (n : Int)) : ∃ z : Int, v = .int z ∧ 0 ≤ z ∧ z < n := by
  obtain ⟨i, hi, rfl⟩ := List.mem_map.mp h
  rw [List.mem_range] at hi
  exact ⟨_, rfl, by omega, by omega⟩
theorem rgV_nodup (n : Nat) : (rgV 0 (n : Int)).Nodup := by
  have e : rgV 0 (n : Int) = ((List.range n).map fun i : Nat => (0 : Int) + (i : Nat)).map V.int := by
    unfold rgV
    rw [List.map_map, show ((n : Int) - 0).toNat = n by omega]
    rfl
  rw [e, map_nodup]
  refine List.Pairwise.map _ (fun a b (h : a ≠ b) => ?_) List.nodup_range
  intro z
  exact h (by omega)
theorem ints_of {l : List V} (h : ∀ v ∈ l, ∃ z : Int, v = .int z) : ∃ r : List Int, l = r.map V.int := by
  induction l with
  | nil => exact ⟨[], rfl⟩
  | cons a l ih =>
    obtain ⟨z, rfl⟩ := h a List.mem_cons_self
    obtain ⟨r, rfl⟩ := ih fun v hv => h v (List.mem_cons_of_mem _ hv)
    exact ⟨z :: r, rfl⟩
theorem ring_of {n : Nat} {G L : List V} (p : (G ++ L).Perm (rgV 0 (n : Int))) : ∃ r : List Int, G = r.map V.int ∧ r.Nodup ∧ ∀ x ∈ r, 0 ≤ x ∧ x < n := by
  have m : ∀ v ∈ G, ∃ z : Int, v = .int z ∧ 0 ≤ z ∧ z < n := fun v hv => rgV_mem (p.mem_iff.mp (List.mem_append.mpr (.inl hv)))
  obtain ⟨r, rfl⟩ := ints_of fun v hv => (m v hv).imp fun z h => h.1
  refine ⟨r, rfl, map_nodup.mp (List.nodup_append.mp ((p.nodup_iff).mpr (rgV_nodup n))).1, fun x hx => ?_⟩
  obtain ⟨z, e, h⟩ := m _ (List.mem_map.mpr ⟨x, hx, rfl⟩)
  cases e
  exact h
theorem scRing : FnScope ["_law_pen_here", "_law_places", "_law_left", "_law_ring", "_law_lap"] ["_law_pen_here", "_law_places"] (defScope sRing) := ⟨rfl, rfl, rfl, by decide +kernel, rfl, by decide +kernel, by decide +kernel⟩
theorem ok_ring {f : Addr} {fd fdD : FuncData} (F : Fun K "_law_drawn_ring" "_law_drawn_ring" sRing f fd) (T : TG K mg fDraw) (FD : Fun K "_law_draw" "_law_draw" sDraw fDraw fdD) (bD : Binds K fdD ["_law_pen_here", "_law_many"] []) :
    FnOk P w K mg base CX0 2 f fd ["_law_pen_here", "_law_places"] (spRing K) := by
  have GD : FnOk P w K mg base CX0 1 fDraw fdD ["_law_pen_here", "_law_many"] spDraw := ok_draw FD T.p
  refine F.ok scRing (fun vs H Q E h => ?_) (fun cdv A outer s H vs Q E hr h => ?_)
  · obtain ⟨p, c, n, b, rfl, _⟩ := h
    rfl
  · obtain ⟨p, c, n, b, rfl, hP, n3, n100, k⟩ := h
    refine ⟨_, pss_cons (ps_par (i := 2) (j := 3) rfl scRing.nd rfl rfl (by decide) rfl rfl (pa_cons (pe_listRg rfl (by rfl) T.p.list (prg_1 (by rfl) T.range (pv 1))) (pa_cons (pe_lst pa_nil) pa_nil)) (by rfl))
      (pss_cons (ps_for PassesOwn.never rfl (pi_range1 (by rfl) T.range (pa_cons (pe_op op_add pe_int (pe_call GD hr (by rfl) T.p.gDraw FD.kp bD .nil pass0 (pa_cons (pv 0) (pa_cons (pe_op op_sub (pv 1) pe_int) pa_nil)))) pa_nil)) (pg_name (i := 4) scRing.nd rfl (Or.inl rfl))
        (pss_one (ps_expr (pe_bm PySem.F.plainAttrs_list PySem.F.slot_list_append PySem.F.type_list_append mt_append (pv 3) (pa_cons
          (pe_bm PySem.F.plainAttrs_list PySem.F.slot_list_pop PySem.F.type_list_pop mt_popAt (pv 2) (pa_cons
            (pe_call GD hr (by rfl) T.p.gDraw FD.kp bD .nil pass0 (pa_cons (pv 0) (pa_cons (pe_callB call_len_seq (by rfl) T.p.len PySem.boot_len (pa_cons (pv 2) pa_nil)) pa_nil))) pa_nil)) pa_nil)))))
      (pss_one (ps_ret (pe_callTy call_tuple_of (by rfl) T.tuple (by decide +kernel) (pa_cons (pv 3) pa_nil))))), ?_⟩
    refine ⟨_, rfl, _, rfl, RgOk.of_le (by decide) (by omega) (by decide) (by omega), fun l hl0 => ⟨(by show 0 ≤ sizeLine; decide), fun g hg0 => ?_⟩⟩
    have hgl : g ≠ l := fun z => by rw [z, upd_same] at hg0; cases hg0
    have hg1 : H g = none := by rw [upd_ne hgl] at hg0; exact hg0
    have S0 : Same H (upd (upd H l (.lst (rgV 0 (n : Int)))) g (.lst [])) := (Same.new hl0).trans (Same.new hg0)
    have hxl : (rgV 0 (n : Int)).length = n := by rw [rgV_length]; omega
    have P0 := hP.same S0
    obtain ⟨kv0, hk0⟩ := P0.there
    refine ⟨_, _, rfl, _, rfl, _, rfl, _, _, rfl, rfl, p, c, _, b + n, rfl, P0, by omega, by omega, fun d H1 d0 d1 P1 B1 => ?_⟩
    refine ⟨_, _, rfl, rfl, (3 + d : Int), rfl, by omega, by omega, ?_⟩
    refine for_range (lo := 0) (n := ((3 + d : Int)).toNat) (fun i σ H' => ∃ (v : Option V) (L G : List V), σ = [some (.ref p), some (.int (n : Int)), some (.ref l), some (.ref g), v] ∧ H' l = some (.lst L) ∧ H' g = some (.lst G) ∧ (G ++ L).Perm (rgV 0 (n : Int)) ∧ G.length = i ∧ Kp H H' ∧ Pen H' p c (b + (n - i)))
      ⟨none, rgV 0 (n : Int), [], rfl, B1.keep hk0 (by rw [upd_ne (Ne.symm hgl)]; exact upd_same) (by intro z; cases z), B1.keep hk0 upd_same (by intro z; cases z), .refl _, rfl, (Kp.of_same S0).trans (.of_but B1 hk0), by rw [Nat.sub_zero]; exact P1⟩ ?_ ?_
    · rintro i σ H1 hi ⟨v, L, G, rfl, eL, eG, pm, hG, kp, P1⟩
      have hlen : L.length = n - i := by have := pm.length_eq; rw [List.length_append, hxl] at this; omega
      have hi' : i < n := by omega
      obtain ⟨kv1, hk1⟩ := P1.there
      refine ⟨_, rfl, .inl ⟨rfl, _, SqL.of eG⟩, _, rfl, .inl ⟨rfl, _, SqL.of eL⟩, _, rfl, _, rfl, l, L, rfl, .inl (SqL.of eL), p, c, _, b + (n - (i + 1)), rfl, ?_, by omega, by omega, fun z H2 n0 n1 P2 B2 => ?_⟩
      · rw [show b + (n - (i + 1)) + 1 = b + (n - i) by omega]; exact P1
      · obtain ⟨y, hy⟩ := get_of_lt (l := L) n0 n1
        have eL2 := B2.keep hk1 eL (by intro z; cases z)
        have eG2 := B2.keep hk1 eG (by intro z; cases z)
        refine ⟨l, L, z, z.toNat, y, rfl, rfl, eL2, by omega, by omega, PySem.seqIndex_of n0 n1, hy, ?_⟩
        refine ⟨g, G, y, rfl, rfl, by rw [upd_ne hgl]; exact eG2, by rw [hG]; exact Nat.lt_of_lt_of_le (by omega : i < 1000) (by decide), ?_⟩
        refine ⟨_, L.eraseIdx z.toNat, G ++ [y], rfl, by rw [upd_ne (Ne.symm hgl)]; exact upd_same, upd_same, pop_perm hy pm, by rw [List.length_append, hG]; rfl, ((kp.trans (.of_but B2 hk1)).upd hl0).upd hg1, ?_⟩
        exact (P2.upd (hP.off hl0).1 (hP.off hl0).2).upd (hP.off hg1).1 (hP.off hg1).2
    · rintro σ H1 ⟨v, L, G, rfl, eL, eG, pm, hG, kp, P1⟩
      obtain ⟨r, rfl, rn, rb⟩ := ring_of pm
      rw [List.length_map] at hG
      refine ⟨_, rfl, g, _, rfl, .inl ⟨SqL.of eG, fun t ht => ?_⟩⟩
      exact k t r _ ⟨rn, rb, by omega, by omega⟩ upd_same (kp.trans (.new ht)) ((P1.same (Same.new ht)).less (by omega))
end
end Y
set_option Elab.async false
set_option linter.all false
set_option maxRecDepth 100000
set_option maxHeartbeats 4000000
namespace Y
open PySem L2
/-- a row of n things -/
def StandOk (n : Nat) (st : List Int) : Prop := st.length = n ∧ ∀ x ∈ st, 0 ≤ x ∧ x ≤ (n : Int) + 2
def spStand (K : PySem.W.Frag) : Sp := fun vs H Q _ => ∃ (p c : Addr) (n h b : Nat) (kd : Bool), vs = [.ref p, .int (n : Int), .int (h : Int), .bl kd] ∧ Pen H p c (b + 2 * n) ∧ h ≤ n ∧ n ≤ 100 ∧
  ∀ q st H', StandOk n st → H' q = some (.tup (st.map V.int)) → Kp H H' → Pen H' p c b → Q (.ref q) H'
theorem map_set {l : List Int} {j : Nat} {z : Int} : (l.map V.int).set j (.int z) = (l.set j z).map V.int := (List.map_set).symm
section
variable {P : Program} {w : World} {K : PySem.W.Frag} {mg : Str → Option Value} {base : Heap} {fDraw : Addr}
theorem scStand : FnScope ["_law_pen_here", "_law_places", "_law_holes", "_law_kinds", "_law_left", "_law_stand", "_law_things", "_law_k", "_law_thing"] ["_law_pen_here", "_law_places", "_law_holes", "_law_kinds"] (defScope sStand) := ⟨rfl, rfl, rfl, by decide +kernel, rfl, by decide +kernel, by decide +kernel⟩
theorem ok_stand {f : Addr} {fd fdD : FuncData} (F : Fun K "_law_drawn_stand" "_law_drawn_stand" sStand f fd) (T : TG K mg fDraw) (FD : Fun K "_law_draw" "_law_draw" sDraw fDraw fdD) (bD : Binds K fdD ["_law_pen_here", "_law_many"] []) :
    FnOk P w K mg base CX0 2 f fd ["_law_pen_here", "_law_places", "_law_holes", "_law_kinds"] (spStand K) := by
  have GD : FnOk P w K mg base CX0 1 fDraw fdD ["_law_pen_here", "_law_many"] spDraw := ok_draw FD T.p
  refine F.ok scStand (fun vs H Q E h => ?_) (fun cdv A outer s H vs Q E hr h => ?_)
  · obtain ⟨p, c, n, h, b, kd, rfl, _⟩ := h
    rfl
  · obtain ⟨p, c, n, h, b, kd, rfl, hP, hhn, n100, k⟩ := h
    refine ⟨_, pss_cons (ps_par (i := 4) (j := 5) rfl scStand.nd rfl rfl (by decide) rfl rfl (pa_cons (pe_listRg rfl (by rfl) T.p.list (prg_1 (by rfl) T.range (pv 1))) (pa_cons (pe_op op_rep (pe_lst (pa_cons pe_int pa_nil)) (pv 1)) pa_nil)) (by rfl))
      (pss_cons (ps_set (i := 6) scStand.nd rfl (Or.inl rfl) (pe_lst pa_nil))
      (pss_cons (ps_for PassesOwn.never rfl (pi_range1 (by rfl) T.range (pa_cons (pe_op op_sub (pv 1) (pv 2)) pa_nil)) (pg_name (i := 7) scStand.nd rfl (Or.inl rfl))
        (pss_one (ps_expr (pe_bm PySem.F.plainAttrs_list PySem.F.slot_list_append PySem.F.type_list_append mt_append (pv 6) (pa_cons
          (pe_ifExp (pt_val (pv 3)) (pe_op op_add pe_int (pe_call GD hr (by rfl) T.p.gDraw FD.kp bD .nil pass0 (pa_cons (pv 0) (pa_cons pe_int pa_nil)))) (pe_op op_add (pv 7) pe_int)) pa_nil)))))
      (pss_cons (ps_for PassesOwn.never rfl (pi_list (pv 6)) (pg_name (i := 8) scStand.nd rfl (Or.inl rfl))
        (pss_one (ps_asg (pv 8) (pg_sub (pv 5) (pe_bm PySem.F.plainAttrs_list PySem.F.slot_list_pop PySem.F.type_list_pop mt_popAt (pv 4) (pa_cons
            (pe_call GD hr (by rfl) T.p.gDraw FD.kp bD .nil pass0 (pa_cons (pv 0) (pa_cons (pe_callB call_len_seq (by rfl) T.p.len PySem.boot_len (pa_cons (pv 4) pa_nil)) pa_nil))) pa_nil)) set_list))))
      (pss_one (ps_ret (pe_callTy call_tuple_of (by rfl) T.tuple (by decide +kernel) (pa_cons (pv 5) pa_nil))))))), ?_⟩
    have hxl : (rgV 0 (n : Int)).length = n := by rw [rgV_length]; omega
    refine ⟨_, rfl, _, rfl, RgOk.of_le (by decide) (by omega) (by decide) (by omega), fun l hl0 => ⟨(by show 1 ≤ sizeLine; decide), fun x hx0 => ?_⟩⟩
    refine ⟨_, rfl, x, (n : Int), [.int 0], rfl, rfl, upd_same, by omega, by omega, (by
      show 1 * ((n : Int)).toNat ≤ sizeLine
      have : sizeLine = 16777216 := sizeLine_eq
      omega), fun s hs0 => ?_⟩
    have e0 : (List.replicate ((n : Int)).toNat [V.int 0]).flatten = (List.replicate n (0 : Int)).map V.int := by
      rw [show ((n : Int)).toNat = n by omega, List.map_replicate]
      induction n with
      | zero => rfl
      | succ n ih => 
        clear ih
        exact List.flatten_replicate_singleton
    rw [e0]
    refine ⟨_, _, rfl, ?_⟩
    refine ⟨(by show 0 ≤ sizeLine; decide), fun t ht0 => ?_⟩
    have hx1 : x ≠ l := fun z => by rw [z, upd_same] at hx0; cases hx0
    have hsx : s ≠ x := fun z => by rw [z, upd_same] at hs0; cases hs0
    have hs1 : (upd H l (.lst (rgV 0 (n : Int)))) s = none := by rw [upd_ne hsx] at hs0; exact hs0
    have hsl : s ≠ l := fun z => by rw [z, upd_same] at hs1; cases hs1
    have hs2 : H s = none := by rw [upd_ne hsl] at hs1; exact hs1
    have S0 : Same H (upd (upd (upd (upd H l (.lst (rgV 0 (n : Int)))) x (.lst [.int 0])) s (.lst ((List.replicate n (0 : Int)).map V.int))) t (.lst [])) := (((Same.new hl0).trans (Same.new hx0)).trans (Same.new hs0)).trans (Same.new ht0)
    have ht2 : H t = none := by
      cases e : H t with
      | none => rfl
      | some o => have := (((Same.new hl0).trans (Same.new hx0)).trans (Same.new (o := .lst ((List.replicate n (0 : Int)).map V.int)) hs0)) t o e; rw [ht0] at this; cases this
    have tl : t ≠ l := fun z => by
      have := (Same.new hs0 (o := .lst ((List.replicate n (0 : Int)).map V.int))) l _ ((Same.new hx0 (o := .lst [.int 0])) l _ upd_same)
      rw [z, this] at ht0
      cases ht0
    have ts' : t ≠ s := fun z => by rw [z, upd_same] at ht0; cases ht0
    have eL0 : (upd (upd (upd (upd H l (.lst (rgV 0 (n : Int)))) x (.lst [.int 0])) s (.lst ((List.replicate n (0 : Int)).map V.int))) t (.lst [])) l = some (.lst (rgV 0 (n : Int))) := by
      rw [upd_ne (Ne.symm tl), upd_ne (Ne.symm hsl), upd_ne (Ne.symm hx1)]; exact upd_same
    have eS0 : (upd (upd (upd (upd H l (.lst (rgV 0 (n : Int)))) x (.lst [.int 0])) s (.lst ((List.replicate n (0 : Int)).map V.int))) t (.lst [])) s = some (.lst ((List.replicate n (0 : Int)).map V.int)) := by
      rw [upd_ne (Ne.symm ts')]; exact upd_same
    have lo := hP.off hl0
    have so := hP.off hs2
    have to := hP.off ht2
    -- the things
    refine ⟨_, rfl, _, rfl, _, _, rfl, rfl, ((n : Int) - (h : Int)), rfl, by omega, by omega, ?_⟩
    refine for_range (lo := 0) (n := ((n : Int) - (h : Int)).toNat) (fun i σ H' => ∃ (v : Option V) (ts : List Int), σ = [some (.ref p), some (.int (n : Int)), some (.int (h : Int)), some (.bl kd), some (.ref l), some (.ref s), some (.ref t), v, none] ∧
        H' l = some (.lst (rgV 0 (n : Int))) ∧ H' s = some (.lst ((List.replicate n (0 : Int)).map V.int)) ∧ H' t = some (.lst (ts.map V.int)) ∧ ts.length = i ∧ (∀ x ∈ ts, 0 ≤ x ∧ x ≤ (n : Int) + 2) ∧ Kp H H' ∧ Pen H' p c (b + (2 * n - i)))
      ⟨none, [], rfl, eL0, eS0, upd_same, rfl, (fun x hx => by cases hx), .of_same S0, by rw [Nat.sub_zero]; exact hP.same S0⟩ ?_ ?_
    · rintro i σ H1 hi ⟨v, ts, rfl, eL, eS, eT, hT, bT, kp, P1⟩
      have hi' : i < n := by omega
      obtain ⟨kv1, hk1⟩ := P1.there
      have add : ∀ (z : Int) (H2 : Hp), 0 ≤ z → z ≤ (n : Int) + 2 → H2 l = some (.lst (rgV 0 (n : Int))) → H2 s = some (.lst ((List.replicate n (0 : Int)).map V.int)) → H2 t = some (.lst (ts.map V.int)) → Kp H H2 → Pen H2 p c (b + (2 * n - (i + 1))) →
          ∃ l' xs y, V.ref t = .ref l' ∧ [V.int z] = [y] ∧ H2 l' = some (.lst xs) ∧ xs.length < sizeLine ∧ ∃ (v : Option V) (ts : List Int), [some (.ref p), some (.int (n : Int)), some (.int (h : Int)), some (.bl kd), some (.ref l), some (.ref s), some (.ref t), some (.int (0 + (i : Int))), none] = [some (.ref p), some (.int (n : Int)), some (.int (h : Int)), some (.bl kd), some (.ref l), some (.ref s), some (.ref t), v, none] ∧
            (upd H2 l' (.lst (xs ++ [y]))) l = some (.lst (rgV 0 (n : Int))) ∧ (upd H2 l' (.lst (xs ++ [y]))) s = some (.lst ((List.replicate n (0 : Int)).map V.int)) ∧ (upd H2 l' (.lst (xs ++ [y]))) t = some (.lst (ts.map V.int)) ∧ ts.length = i + 1 ∧ (∀ x ∈ ts, 0 ≤ x ∧ x ≤ (n : Int) + 2) ∧ Kp H (upd H2 l' (.lst (xs ++ [y]))) ∧ Pen (upd H2 l' (.lst (xs ++ [y]))) p c (b + (2 * n - (i + 1))) := fun z H2 z0 z1 eL2 eS2 eT2 kp2 P2 =>
        ⟨t, _, _, rfl, rfl, eT2, by rw [List.length_map, hT]; exact Nat.lt_of_lt_of_le (by omega : i < 1000) (by decide), _, ts ++ [z], rfl, by rw [upd_ne (Ne.symm tl)]; exact eL2, by rw [upd_ne (Ne.symm ts')]; exact eS2, by rw [upd_same, List.map_append]; rfl, by rw [List.length_append, hT]; rfl, (fun x hx => by
          rcases List.mem_append.mp hx with hx | hx
          · exact bT x hx
          · rw [List.mem_singleton.mp hx]; exact ⟨z0, z1⟩), kp2.upd ht2, P2.upd to.1 to.2⟩
      refine ⟨_, rfl, .inl ⟨rfl, _, SqL.of eT⟩, ?_⟩
      refine ⟨_, rfl, kd, rfl, ?_⟩
      refine ifT (fun hkd => ?_) (fun hkd => ?_)
      · refine ⟨_, rfl, p, c, 2, b + (2 * n - (i + 1)), rfl, by rw [show b + (2 * n - (i + 1)) + 1 = b + (2 * n - i) by omega]; exact P1, by decide, by decide, fun z H2 z0 z1 P2 B2 => ?_⟩
        refine ⟨_, _, rfl, rfl, ?_⟩
        exact add (1 + z) H2 (by omega) (by omega) (B2.keep hk1 eL (by intro z; cases z)) (B2.keep hk1 eS (by intro z; cases z)) (B2.keep hk1 eT (by intro z; cases z)) (kp.trans (.of_but B2 hk1)) P2
      · refine ⟨_, rfl, _, _, rfl, rfl, ?_⟩
        exact add (0 + (i : Int) + 1) H1 (by omega) (by omega) eL eS eT kp (P1.less (by omega))
    · rintro σ H1 ⟨v, ts, rfl, eL, eS, eT, hT, bT, kp, P1⟩
      -- each thing has its place
      refine ⟨_, rfl, t, rfl, ⟨_, SqL.of eT⟩, for_list (K := K) (a := t) (xs := ts.map V.int) (fun i σ H' => ∃ (v8 : Option V) (L : List V) (st : List Int), σ = [some (.ref p), some (.int (n : Int)), some (.int (h : Int)), some (.bl kd), some (.ref l), some (.ref s), some (.ref t), v, v8] ∧
        H' l = some (.lst L) ∧ L.length = n - i ∧ (∀ v ∈ L, v ∈ rgV 0 (n : Int)) ∧ H' s = some (.lst (st.map V.int)) ∧ StandOk n st ∧ H' t = some (.lst (ts.map V.int)) ∧ Kp H H' ∧ Pen H' p c (b + (n - i)))
        ⟨none, rgV 0 (n : Int), List.replicate n 0, rfl, eL, by rw [hxl, Nat.sub_zero], (fun v hv => hv), eS, ⟨List.length_replicate, fun x hx => by rw [(List.mem_replicate.mp hx).2]; exact ⟨Int.le_refl 0, by omega⟩⟩, eT, kp, P1.less (by omega)⟩ (fun i σ H2 _ ⟨_, _, _, _, _, _, _, _, _, e, _⟩ => SqL.of e) ?_ ?_⟩
      · rintro i y σ H2 hi ⟨v8, L, st, rfl, eL, hL, mL, eS, ⟨sl, sb⟩, eT, kp, P2⟩
        obtain ⟨y', hy', rfl⟩ := ints_at hi
        have hty : y' ∈ ts := List.mem_of_getElem? hy'
        have hi' : i < ts.length := by
          rcases Nat.lt_or_ge i ts.length with h | h
          · exact h
          · rw [List.getElem?_eq_none h] at hy'; cases hy'
        have hin : i < n := by omega
        obtain ⟨kv1, hk1⟩ := P2.there
        refine ⟨_, rfl, _, rfl, _, rfl, .inl ⟨rfl, _, SqL.of eL⟩, _, rfl, _, rfl, l, L, rfl, .inl (SqL.of eL), p, c, _, b + (n - (i + 1)), rfl, by rw [show b + (n - (i + 1)) + 1 = b + (n - i) by omega]; exact P2, by omega, by omega, fun z H3 z0 z1 P3 B3 => ?_⟩
        obtain ⟨u, hu⟩ := get_of_lt (l := L) z0 z1
        obtain ⟨a, rfl, a0, a1⟩ := rgV_mem (mL u (List.mem_of_getElem? hu))
        refine ⟨l, L, z, z.toNat, _, rfl, rfl, B3.keep hk1 eL (by intro z; cases z), by omega, by omega, PySem.seqIndex_of z0 z1, hu, ?_⟩
        refine ⟨s, _, a, a.toNat, rfl, rfl, by rw [upd_ne hsl]; exact B3.keep hk1 eS (by intro z; cases z), by unfold ixN; rw [if_pos a0, List.length_map, sl, if_pos a1], ?_⟩
        rw [map_set]
        refine ⟨_, L.eraseIdx z.toNat, st.set a.toNat y', rfl, by rw [upd_ne (Ne.symm hsl)]; exact upd_same, by rw [List.length_eraseIdx_of_lt (by omega)]; omega, fun v hv => mL v (List.mem_of_mem_eraseIdx hv), upd_same, ⟨by rw [List.length_set]; exact sl, fun x hx => ?_⟩, ?_, ((kp.trans (.of_but B3 hk1)).upd hl0).upd hs2, (P3.upd lo.1 lo.2).upd so.1 so.2⟩
        · rcases List.mem_or_eq_of_mem_set hx with hx | hx
          · exact sb x hx
          · rw [hx]; exact bT y' hty
        · rw [upd_ne ts', upd_ne tl]; exact B3.keep hk1 eT (by intro z; cases z)
      · rintro σ H2 ⟨v8, L, st, rfl, eL, hL, mL, eS, so', eT, kp, P2⟩
        refine ⟨_, rfl, s, _, rfl, .inl ⟨SqL.of eS, fun q hq => ?_⟩⟩
        exact k q st _ so' upd_same (kp.trans (.new hq)) ((P2.same (Same.new hq)).less (by omega))
end
end Y
set_option Elab.async false
set_option linter.all false
set_option maxRecDepth 100000
set_option maxHeartbeats 4000000
namespace Y
open PySem L2
abbrev sWithout : Stmt := top 41
def spWithout (K : PySem.W.Frag) (hu : Prop) : Sp := fun vs H Q _ => ∃ (d g : Addr) (n : Nat) (kvs : PK) (ks : List (Int × Int)) (t : Int × Int), vs = [.ref d, .ref g] ∧ H d = some (.dT kvs) ∧ SqT K H g [.int t.1, .int t.2] ∧ PairsOk n kvs ks ∧ ks.length ≤ 60 ∧
  ∀ (d' : Addr) (kvs' : PK) (ks' : List (Int × Int)) (H' : Hp), PairsOk n kvs' ks' → ks'.length ≤ ks.length → H' d' = some (.dT kvs') → H d' = none → Same H H' → Q (.ref d') H'
theorem shaped_tie (t : Int × Int) : SeqAt.shaped (tieD t) = true := by
  have e1 : PyData.canLay0 (tieD t) = true := by simp only [tieD, PyData.canLay0, PyData.canLayAll0, Bool.and_self]
  have e2 : decide (PyData.depth (tieD t) ≤ 64) = true := by simp [tieD, PyData.depth, PyData.depthAll]
  unfold SeqAt.shaped
  rw [e1, e2]
  rfl
section
variable {P : Program} {w : World} {K : PySem.W.Frag} {mg : Str → Option Value} {base : Heap} {fDraw : Addr}
theorem scWithout : FnScope ["_law_pairs", "_law_gone", "_law_found", "_law_pair"] ["_law_pairs", "_law_gone"] (defScope sWithout) := ⟨rfl, rfl, rfl, by decide +kernel, rfl, by decide +kernel, by decide +kernel⟩
theorem ok_without {f : Addr} {fd : FuncData} (F : Fun K "_law_without" "_law_without" sWithout f fd) : FnOk P w K mg base CX0 1 f fd ["_law_pairs", "_law_gone"] (spWithout K True) := by
  refine F.ok scWithout (fun vs H Q E h => ?_) (fun cdv A outer s H vs Q E hr h => ?_)
  · obtain ⟨d, g, n, kvs, ks, t, rfl, _⟩ := h
    rfl
  · obtain ⟨d, g, n, kvs, ks, t, rfl, hd, hg, hP, h60, k⟩ := h
    have hu := hu_of hr
    have hu64 := hr.units
    refine ⟨_, pss_cons (ps_set (i := 2) scWithout.nd rfl (Or.inl rfl) pe_dnewT)
      (pss_cons (ps_lock (ps_for PassesOwn.never rfl (pi_keys (pv 0)) (pg_name (i := 3) scWithout.nd rfl (Or.inl rfl))
        (pss_one (ps_if (pt_cmpR (op_neD hu64) (pv 3) (pv 1) (nomark _)) (pss_one (ps_dput hu (pv 2) (pv 3) pe_bl rfl)) pss_nil))))
      (pss_one (ps_ret (pv 2)))), ?_⟩
    intro x hx
    have hdx : d ≠ x := ne_of_none hd hx
    refine ⟨d, .dT kvs, by rw [upd_ne hdx]; exact hd, trivial, fun od => ?_⟩
    refine ⟨_, rfl, d, od, rfl, .inr ⟨kvs, upd_same, ?_⟩⟩
    have S0 : ∀ b u, b ≠ d → H b = some u → (upd (upd H x (.dT [])) d (.frz od (.dT kvs))) b = some u := fun b u nb e => by rw [upd_ne nb, upd_ne (ne_of_none e hx)]; exact e
    refine for_it walk_keysT (fun i σ H' => ∃ (v : Option V) (kvs' : PK) (ks' : List (Int × Int)), σ = [some (.ref d), some (.ref g), some (.ref x), v] ∧ PairsOk n kvs' ks' ∧ ks'.length ≤ i ∧ H' x = some (.dT kvs') ∧ H' d = some (.frz od (.dT kvs)) ∧ ∀ b u, b ≠ d → H b = some u → H' b = some u)
      ⟨none, [], [], rfl, .nil n, Nat.le_refl 0, by rw [upd_ne (Ne.symm hdx)]; exact upd_same, upd_same, S0⟩ (fun i σ H' _ ⟨_, _, _, _, _, _, _, e, _⟩ => e) ?_ ?_
    · rintro i y σ H1 H1' hi ⟨v, kvs', ks', rfl, hP', hl', ex, ed, S1⟩ ⟨rfl, key, val, q, hk, rfl, eq⟩
      have hi' : i < ks.length := by rw [← hP.len]; exact hi
      -- the key is a tie
      have hkey : ∃ u, key = pk u ∧ TieOk n u := by
        have h1 : (kvs.map (·.1))[i]? = some key := by rw [List.getElem?_map, hk]; rfl
        rw [hP.1, List.getElem?_map] at h1
        cases e : ks[i]? with
        | none => rw [e] at h1; cases h1
        | some u => rw [e] at h1; exact ⟨u, (Option.some.inj h1).symm, hP.2.2 u (List.mem_of_getElem? e)⟩
      obtain ⟨u, rfl, hu'⟩ := hkey
      have eq' : H1' q = some (.tup [.int u.1, .int u.2]) := by rw [eq]; rfl
      have hg1 : SqT K H1' g [.int t.1, .int t.2] := by
        rcases hg with (h | ⟨o, h⟩) | h
        · exact .inl (.inl (S1 g _ (ne_of h hd (by intro z; cases z)) h))
        · exact .inl (.inr ⟨o, S1 g _ (ne_of h hd (by intro z; cases z)) h⟩)
        · exact .inr h
      refine ⟨_, rfl, _, rfl, tieD u, tieD t, dp_tie (SqT.of eq'), dp_tie hg1, shaped_tie _, shaped_tie _, _, rfl, ?_⟩
      refine ifT (fun _ => ?_) (fun _ => ?_)
      · obtain ⟨ks2, hP2, hl2, _, _⟩ := hP'.put hu' (.bl true)
        refine ⟨_, rfl, _, rfl, x, _, rfl, DPut.t ex eq (by rw [hP'.len]; exact Nat.lt_of_le_of_lt (by omega : ks'.length ≤ 60) (by decide)), ?_⟩
        refine ⟨_, _, ks2, rfl, hP2, by omega, upd_same, by rw [upd_ne hdx]; exact ed, fun b o nb e => by rw [upd_ne (ne_of_none e hx)]; exact S1 b o nb e⟩
      · exact ⟨_, kvs', ks', rfl, hP', by omega, ex, ed, S1⟩
    · rintro σ H1 ⟨v, kvs', ks', rfl, hP', hl', ex, ed, S1⟩
      refine ⟨ed, _, rfl, ?_⟩
      refine k x kvs' ks' _ hP' (by rw [← hP.len]; exact hl') (by rw [upd_ne (Ne.symm hdx)]; exact ex) hx fun b o e => ?_
      by_cases nb : b = d
      · rw [nb, hd] at e
        rw [nb, upd_same]
        exact e
      · rw [upd_ne nb]
        exact S1 b o nb e
end
end Y
set_option Elab.async false
set_option linter.all false
set_option maxRecDepth 100000
set_option maxHeartbeats 4000000
namespace Y
open PySem L2
abbrev sDYard : Stmt := top 40
abbrev RingAt (K : PySem.W.Frag) (H : Hp) (y : V) (r : List Int) : Prop := TupI K H y r
theorem ring_kp {K : PySem.W.Frag} {H H' : Hp} {y : V} {r : List Int} (h : RingAt K H y r) (s : Kp H H') : RingAt K H' y r := by
  obtain ⟨b, e, h⟩ := h
  exact ⟨b, e, s.seqT h⟩
theorem rings_kp {K : PySem.W.Frag} {H H' : Hp} {ys : List V} {rs : List (List Int)} (h : Paired (RingAt K H) ys rs) (s : Kp H H') : Paired (RingAt K H') ys rs := by
  induction h with
  | nil => exact .nil
  | cons a _ ih => exact .cons (ring_kp a s) ih
theorem rings_snoc {K : PySem.W.Frag} {H : Hp} {ys : List V} {rs : List (List Int)} {y : V} {r : List Int} (h : Paired (RingAt K H) ys rs) (a : RingAt K H y r) : Paired (RingAt K H) (ys ++ [y]) (rs ++ [r]) := by
  induction h with
  | nil => exact .cons a .nil
  | cons b _ ih => exact .cons b ih
theorem rings_map {R R' : V → List Int → Prop} {ys : List V} {rs : List (List Int)} (f : ∀ y r, R y r → R' y r) (h : Paired R ys rs) : Paired R' ys rs := by
  induction h with
  | nil => exact .nil
  | cons a _ ih => exact .cons (f _ _ a) ih
/-- at q: a yard's three parts -/
def YdAt (K : PySem.W.Frag) (H : Hp) (q : Addr) (n : Nat) (ts : List (Int × Int)) (rs : List (List Int)) : Prop := ∃ (a e : Addr) (ys zs : List V), SqT K H q [.int (n : Int), .ref a, .ref e] ∧ SqT K H a ys ∧ Paired (TieAt K H) ys ts ∧ SqT K H e zs ∧ Paired (RingAt K H) zs rs
theorem YdAt.kp {K : PySem.W.Frag} {H H' : Hp} {q : Addr} {n : Nat} {ts : List (Int × Int)} {rs : List (List Int)} (h : YdAt K H q n ts rs) (s : Kp H H') : YdAt K H' q n ts rs := by
  obtain ⟨a, e, ys, zs, h1, h2, h3, h4, h5⟩ := h
  exact ⟨a, e, ys, zs, s.seqT h1, s.seqT h2, ties_kp h3 s, s.seqT h4, rings_kp h5 s⟩
def YdOk (n : Nat) (ts : List (Int × Int)) (rs : List (List Int)) : Prop := 1 ≤ n ∧ n ≤ 12 ∧ TiesOk n ts ∧ ts.length ≤ 60 ∧ (∀ r ∈ rs, RingOk n r) ∧ rs.length ≤ 2
def spDYard (K : PySem.W.Frag) : Sp := fun vs H Q _ => ∃ (p c : Addr) (m b : Nat) (ways rings : Bool), vs = [.ref p, .int (m : Int), .bl ways, .bl rings] ∧ Pen H p c (b + 100) ∧ 2 ≤ m ∧ m ≤ 12 ∧
  ∀ q n ts rs H', YdAt K H' q n ts rs → YdOk n ts rs → n ≤ m → Kp H H' → Pen H' p c b → Q (.ref q) H'
structure TY (K : PySem.W.Frag) (mg : Str → Option Value) (fDraw fPick fWithout fRing : Addr) : Prop where
  g : TG K mg fDraw
  sorted : mg "sorted" = none
  gPick : mg "_law_pick" = some (.ref fPick)
  gWithout : mg "_law_without" = some (.ref fWithout)
  gRing : mg "_law_drawn_ring" = some (.ref fRing)
section
variable {P : Program} {w : World} {K : PySem.W.Frag} {mg : Str → Option Value} {base : Heap} {fDraw fPick fWithout fRing : Addr}
theorem scDYard : FnScope ["_law_pen_here", "_law_most", "_law_ways", "_law_rings", "_law_places", "_law_pairs", "_law_place", "_law_other", "_law_lap", "_law_one", "_law_gone", "_law_told"] ["_law_pen_here", "_law_most", "_law_ways", "_law_rings"] (defScope sDYard) := ⟨rfl, rfl, rfl, by decide +kernel, rfl, by decide +kernel, by decide +kernel⟩
/-- the pairs at d, after what was at H0 -/
structure PSt (H0 H : Hp) (p c d : Addr) (n b m : Nat) : Prop where
  ex : ∃ (kvs : PK) (ks : List (Int × Int)), PairsOk n kvs ks ∧ ks.length ≤ m ∧ ks ≠ [] ∧ H d = some (.dT kvs)
  kp : Kp H0 H
  pen : Pen H p c b
theorem ok_dyard {f : Addr} {fd fdD fdK fdW fdR : FuncData} (F : Fun K "_law_drawn_yard" "_law_drawn_yard" sDYard f fd) (T : TY K mg fDraw fPick fWithout fRing) (FD : Fun K "_law_draw" "_law_draw" sDraw fDraw fdD) (bD : Binds K fdD ["_law_pen_here", "_law_many"] [])
    (FK : Fun K "_law_pick" "_law_pick" sPick fPick fdK) (bK : Binds K fdK ["_law_pen_here", "_law_some"] []) (FW : Fun K "_law_without" "_law_without" sWithout fWithout fdW) (bW : Binds K fdW ["_law_pairs", "_law_gone"] [])
    (FR : Fun K "_law_drawn_ring" "_law_drawn_ring" sRing fRing fdR) (bR : Binds K fdR ["_law_pen_here", "_law_places"] []) :
    FnOk P w K mg base CX0 3 f fd ["_law_pen_here", "_law_most", "_law_ways", "_law_rings"] (spDYard K) := by
  have GD : FnOk P w K mg base CX0 1 fDraw fdD ["_law_pen_here", "_law_many"] spDraw := ok_draw FD T.g.p
  have GK : FnOk P w K mg base CX0 2 fPick fdK ["_law_pen_here", "_law_some"] (spPick K) := ok_pick FK T.g.p FD bD
  have GW : FnOk P w K mg base CX0 1 fWithout fdW ["_law_pairs", "_law_gone"] (spWithout K True) := ok_without FW
  have GR : FnOk P w K mg base CX0 2 fRing fdR ["_law_pen_here", "_law_places"] (spRing K) := ok_ring FR T.g FD bD
  refine F.ok scDYard (fun vs H Q E h => ?_) (fun cdv A outer s H vs Q E hr h => ?_)
  · obtain ⟨p, c, m, b, ways, rings, rfl, _⟩ := h
    rfl
  · obtain ⟨p, c, m, b, ways, rings, rfl, hP, m2, m12, k⟩ := h
    have hu := hu_of hr
    have hr1 : Room 1 _ := hr.mono (by decide)
    refine ⟨_, pss_cons (ps_set (i := 4) scDYard.nd rfl (Or.inl rfl) (pe_op op_add pe_int (pe_call GD hr1 (by rfl) T.g.p.gDraw FD.kp bD .nil pass0 (pa_cons (pv 0) (pa_cons (pe_op op_sub (pv 1) pe_int) pa_nil)))))
      (pss_cons (ps_set (i := 5) scDYard.nd rfl (Or.inl rfl) pe_dnewT)
      (pss_cons (ps_for PassesOwn.never rfl (pi_range2 (by rfl) T.g.range (pa_cons pe_int (pa_cons (pv 4) pa_nil))) (pg_name (i := 6) scDYard.nd rfl (Or.inl rfl))
        (pss_cons (ps_set (i := 7) scDYard.nd rfl (Or.inl rfl) (pe_call GD hr1 (by rfl) T.g.p.gDraw FD.kp bD .nil pass0 (pa_cons (pv 0) (pa_cons (pv 6) pa_nil))))
        (pss_cons (ps_dput hu (pv 5) (pe_tup (pa_cons (pv 7) (pa_cons (pv 6) pa_nil))) pe_bl rfl)
        (pss_one (ps_dput hu (pv 5) (pe_tup (pa_cons (pv 6) (pa_cons (pv 7) pa_nil))) pe_bl rfl)))))
      (pss_cons (ps_for PassesOwn.never rfl (pi_range1 (by rfl) T.g.range (pa_cons (pe_call GD hr1 (by rfl) T.g.p.gDraw FD.kp bD .nil pass0 (pa_cons (pv 0) (pa_cons pe_int pa_nil))) pa_nil)) (pg_name (i := 8) scDYard.nd rfl (Or.inl rfl))
        (pss_cons (ps_par (i := 9) (j := 7) rfl scDYard.nd rfl rfl (by decide) rfl rfl (pa_cons (pe_call GD hr1 (by rfl) T.g.p.gDraw FD.kp bD .nil pass0 (pa_cons (pv 0) (pa_cons (pv 4) pa_nil))) (pa_cons (pe_call GD hr1 (by rfl) T.g.p.gDraw FD.kp bD .nil pass0 (pa_cons (pv 0) (pa_cons (pv 4) pa_nil))) pa_nil)) (by rfl))
        (pss_one (ps_if (pt_cmpR op_ne (pv 9) (pv 7) (nomark _))
          (pss_cons (ps_dput hu (pv 5) (pe_tup (pa_cons (pv 9) (pa_cons (pv 7) pa_nil))) pe_bl rfl)
          (pss_one (ps_if (PW.pt (pw_or (pt_not (pt_val (pv 2))) (pw_or1 (pt_cmpR op_eq (pe_call GD hr1 (by rfl) T.g.p.gDraw FD.kp bD .nil pass0 (pa_cons (pv 0) (pa_cons pe_int pa_nil))) pe_int (nomark _)))))
            (pss_one (ps_dput hu (pv 5) (pe_tup (pa_cons (pv 7) (pa_cons (pv 9) pa_nil))) pe_bl rfl)) pss_nil)))
          pss_nil))))
      (C8.pss_cut (ps_if (PW.pt (pw_and (pt_val (pv 2)) (pw_and1 (pt_cmpR op_eq (pe_call GD hr1 (by rfl) T.g.p.gDraw FD.kp bD .nil pass0 (pa_cons (pv 0) (pa_cons pe_int pa_nil))) pe_int (nomark _)))))
        (pss_cons (ps_set (i := 10) scDYard.nd rfl (Or.inl rfl) (pe_call GK hr (by rfl) T.gPick FK.kp bK .nil pass0 (pa_cons (pv 0) (pa_cons (pe_callB (cr_sortedDT rfl) (by rfl) T.sorted (by decide +kernel) (pa_cons (pv 5) pa_nil)) pa_nil))))
        (pss_one (ps_set (i := 5) scDYard.nd rfl (Or.inl rfl) (pe_call GW hr1 (by rfl) T.gWithout FW.kp bW .nil pass0 (pa_cons (pv 5) (pa_cons (pv 10) pa_nil))))))
        pss_nil)
      (pss_cons (ps_set (i := 11) scDYard.nd rfl (Or.inl rfl) (pe_lst pa_nil))
      (C8.pss_cut (ps_if (PW.pt (pw_and (pt_val (pv 3)) (pw_and1 (pt_cmpR op_ge (pv 4) pe_int (nomark _)))))
        (pss_one (ps_for PassesOwn.never rfl (pi_range1 (by rfl) T.g.range (pa_cons (pe_call GD hr1 (by rfl) T.g.p.gDraw FD.kp bD .nil pass0 (pa_cons (pv 0) (pa_cons pe_int pa_nil))) pa_nil)) (pg_name (i := 8) scDYard.nd rfl (Or.inl rfl))
          (pss_one (ps_expr (pe_bm PySem.F.plainAttrs_list PySem.F.slot_list_append PySem.F.type_list_append mt_append (pv 11) (pa_cons (pe_call GR hr (by rfl) T.gRing FR.kp bR .nil pass0 (pa_cons (pv 0) (pa_cons (pv 4) pa_nil))) pa_nil))))))
        pss_nil)
      (pss_one (ps_ret (pe_tup (pa_cons (pv 4) (pa_cons (pe_callTy call_tuple_of (by rfl) T.g.tuple (by decide +kernel) (pa_cons (pe_callB (cr_sortedDT rfl) (by rfl) T.sorted (by decide +kernel) (pa_cons (pv 5) pa_nil)) pa_nil)) (pa_cons (pe_callTy call_tuple_of (by rfl) T.g.tuple (by decide +kernel) (pa_cons (pv 11) pa_nil)) pa_nil)))))))))))), ?_⟩
    obtain ⟨kv0, hk0⟩ := hP.there
    refine ⟨_, rfl, _, rfl, _, _, rfl, rfl, p, c, _, b + 99, rfl, hP, by omega, by omega, fun z H1 z0 z1 P1 B1 => ?_⟩
    refine ⟨_, _, rfl, rfl, ?_⟩
    obtain ⟨n, hn⟩ : ∃ n : Nat, (2 : Int) + z = (n : Int) := ⟨(2 + z).toNat, by omega⟩
    show gName 4 (V.int ((2 : Int) + z)) _ _ _
    rw [hn]
    have n2 : 2 ≤ n := by omega
    have nm : n ≤ m := by omega
    have kp1 : Kp H H1 := .of_but B1 hk0
    intro d hd
    have dof := P1.off hd
    have put : ∀ (H2 : Hp) (kvs : PK) (ks : List (Int × Int)) (t : Int × Int) (bb mm : Nat), PairsOk n kvs ks → ks.length ≤ mm → mm ≤ 60 → H2 d = some (.dT kvs) → Kp H1 H2 → Pen H2 p c bb → TieOk n t → ∀ t1, H2 t1 = none →
        ∃ kvs', DPut (upd H2 t1 (.tup [.int t.1, .int t.2])) d (.ref t1) (.bl true) (upd (upd H2 t1 (.tup [.int t.1, .int t.2])) d (.dT kvs')) ∧ ∃ ks', PairsOk n kvs' ks' ∧ ks'.length ≤ mm + 1 ∧ ks' ≠ [] ∧ (upd (upd H2 t1 (.tup [.int t.1, .int t.2])) d (.dT kvs')) d = some (.dT kvs') ∧
          Kp H1 (upd (upd H2 t1 (.tup [.int t.1, .int t.2])) d (.dT kvs')) ∧ Pen (upd (upd H2 t1 (.tup [.int t.1, .int t.2])) d (.dT kvs')) p c bb := fun H2 kvs ks t bb mm hp hl hm e kp pn ht t1 n1 => by
      obtain ⟨ks', hp', hl', _, hin⟩ := hp.put ht (.bl true)
      refine ⟨_, DPut.t (k := pk t) ((Same.new n1) _ _ e) upd_same (by rw [hp.len]; exact Nat.lt_of_le_of_lt (by omega : ks.length ≤ 60) (by decide)), ks', hp', by omega, (fun z => by rw [z] at hin; cases hin), upd_same, (kp.trans (.new n1)).upd hd, (pn.same (Same.new n1)).upd dof.1 dof.2⟩
    -- a tree of pairs
    refine ⟨_, rfl, 1, (n : Int), rfl, ⟨by decide, by decide, by omega, by omega⟩, ?_⟩
    refine for_range (lo := 1) (n := ((n : Int) - 1).toNat) (fun i σ H' => ∃ (v6 v7 : Option V) (kvs : PK) (ks : List (Int × Int)), σ = [some (.ref p), some (.int (m : Int)), some (.bl ways), some (.bl rings), some (.int (n : Int)), some (.ref d), v6, v7, none, none, none, none] ∧
        PairsOk n kvs ks ∧ ks.length ≤ 2 * i ∧ (0 < i → ks ≠ []) ∧ H' d = some (.dT kvs) ∧ Kp H1 H' ∧ Pen H' p c (b + 99 - i))
      ⟨none, none, [], [], rfl, .nil n, Nat.le_refl 0, (fun h => absurd h (by decide)), upd_same, .new hd, P1.same (Same.new hd)⟩ ?_ ?_
    · rintro i σ H2 hi ⟨v6, v7, kvs, ks, rfl, hp, hl, _, e, kp, pn⟩
      obtain ⟨kv2, hk2⟩ := pn.there
      refine ⟨_, rfl, _, rfl, p, c, _, b + 99 - (i + 1), rfl, by rw [show b + 99 - (i + 1) + 1 = b + 99 - i by omega]; exact pn, by omega, by omega, fun o H3 o0 o1 p3 B3 => ?_⟩
      refine ⟨_, rfl, _, rfl, _, rfl, (by show 2 ≤ sizeLine; decide), fun t1 n1 => ?_⟩
      obtain ⟨kvs1, dp1, ks1, hp1, hl1, _, e1, kq1, pn1⟩ := put H3 kvs ks (o, 1 + (i : Int)) _ (2 * i) hp hl (by omega) (B3.keep hk2 e (by intro z; cases z)) (kp.trans (.of_but B3 hk2)) p3 ⟨o0, by show o < _; omega, by show 0 ≤ 1 + (i : Int); omega, by show 1 + (i : Int) < _; omega, by show o ≠ 1 + (i : Int); omega⟩ t1 n1
      refine ⟨d, _, rfl, dp1, ?_⟩
      refine ⟨_, rfl, _, rfl, _, rfl, (by show 2 ≤ sizeLine; decide), fun t2 n2' => ?_⟩
      obtain ⟨kvs2, dp2, ks2, hp2, hl2, ne2, e2, kq2, pn2⟩ := put _ kvs1 ks1 (1 + (i : Int), o) _ (2 * i + 1) hp1 hl1 (by omega) e1 kq1 pn1 ⟨by show 0 ≤ 1 + (i : Int); omega, by show 1 + (i : Int) < _; omega, o0, by show o < _; omega, by show 1 + (i : Int) ≠ o; omega⟩ t2 n2'
      refine ⟨d, _, rfl, dp2, ?_⟩
      exact ⟨_, _, kvs2, ks2, rfl, hp2, by omega, fun _ => ne2, e2, kq2, pn2⟩
    · rintro σ H2 ⟨v6, v7, kvs, ks, rfl, hp, hl, hne, e, kp, pn⟩
      obtain ⟨kv2, hk2⟩ := pn.there
      -- a few more
      refine ⟨_, rfl, p, c, 3, b + 80, rfl, pn.less (by omega), by decide, by decide, fun laps H3 l0 l1 p3 B3 => ?_⟩
      refine ⟨laps, rfl, by omega, by omega, ?_⟩
      refine for_range (lo := 0) (n := laps.toNat) (fun i σ H' => ∃ (v7 v8 v9 : Option V) (kvs : PK) (ks : List (Int × Int)), σ = [some (.ref p), some (.int (m : Int)), some (.bl ways), some (.bl rings), some (.int (n : Int)), some (.ref d), v6, v7, v8, v9, none, none] ∧
          PairsOk n kvs ks ∧ ks.length ≤ 24 + 2 * i ∧ ks ≠ [] ∧ H' d = some (.dT kvs) ∧ Kp H1 H' ∧ Pen H' p c (b + 80 - 3 * i))
        ⟨_, _, _, kvs, ks, rfl, hp, by omega, hne (by omega), B3.keep hk2 e (by intro z; cases z), kp.trans (.of_but B3 hk2), p3⟩ ?_ ?_
      · rintro i σ H4 hi ⟨v7, v8, v9, kvs, ks, rfl, hp, hl, hne, e, kp, pn⟩
        obtain ⟨kv4, hk4⟩ := pn.there
        refine ⟨_, rfl, _, rfl, p, c, _, b + 79 - 3 * i, rfl, by rw [show b + 79 - 3 * i + 1 = b + 80 - 3 * i by omega]; exact pn, by omega, by omega, fun x H5 x0 x1 p5 B5 => ?_⟩
        obtain ⟨kv5, hk5⟩ := p5.there
        refine ⟨_, rfl, _, rfl, p, c, _, b + 78 - 3 * i, rfl, by rw [show b + 78 - 3 * i + 1 = b + 79 - 3 * i by omega]; exact p5, by omega, by omega, fun y H6 y0 y1 p6 B6 => ?_⟩
        have e6 := B6.keep hk5 (B5.keep hk4 e (by intro z; cases z)) (by intro z; cases z)
        have kp6 := (kp.trans (.of_but B5 hk4)).trans (.of_but B6 hk5)
        refine ⟨_, _, rfl, ?_⟩
        refine ⟨_, rfl, _, rfl, rfl, _, rfl, ?_⟩
        refine ifT (fun hxy => ?_) (fun _ => ?_)
        · have hxy' : x ≠ y := by intro z; rw [z] at hxy; simp at hxy
          refine ⟨_, rfl, _, rfl, _, rfl, (by show 2 ≤ sizeLine; decide), fun t1 n1 => ?_⟩
          obtain ⟨kvs1, dp1, ks1, hp1, hl1, ne1, e1, kq1, pn1⟩ := put H6 kvs ks (x, y) _ (24 + 2 * i) hp hl (by omega) e6 kp6 p6 ⟨x0, x1, y0, y1, hxy'⟩ t1 n1
          refine ⟨d, _, rfl, dp1, ?_⟩
          refine ⟨_, rfl, ways, rfl, ?_⟩
          have both : ∀ (H7 : Hp) (bb : Nat), H7 d = some (.dT kvs1) → Kp H1 H7 → Pen H7 p c (b + 80 - 3 * (i + 1)) → ∀ t2, H7 t2 = none → _ := fun H7 bb e7 kp7 p7 t2 n2' => put H7 kvs1 ks1 (y, x) (b + 80 - 3 * (i + 1)) (24 + 2 * i + 1) hp1 hl1 (by omega) e7 kp7 p7 ⟨y0, y1, x0, x1, Ne.symm hxy'⟩ t2 n2'
          refine ifT (fun _ => ?_) (fun _ => ?_)
          · refine ⟨_, rfl, _, rfl, _, rfl, (by show 2 ≤ sizeLine; decide), fun t2 n2' => ?_⟩
            obtain ⟨kvs2, dp2, ks2, hp2, hl2, ne2, e2, kq2, pn2⟩ := both _ 0 e1 kq1 (pn1.less (by omega)) t2 n2'
            refine ⟨d, _, rfl, dp2, ?_⟩
            exact ⟨_, _, _, kvs2, ks2, rfl, hp2, by omega, ne2, e2, kq2, pn2⟩
          · obtain ⟨kv7, hk7⟩ := pn1.there
            refine ⟨_, rfl, p, c, 2, b + 77 - 3 * i, rfl, by rw [show b + 77 - 3 * i + 1 = b + 78 - 3 * i by omega]; exact pn1, by decide, by decide, fun u H8 u0 u1 p8 B8 => ?_⟩
            have e8 := B8.keep hk7 e1 (by intro z; cases z)
            have kp8 := kq1.trans (.of_but B8 hk7)
            refine ⟨rfl, _, rfl, ?_⟩
            refine ifT (fun _ => ?_) (fun _ => ?_)
            · refine ⟨_, rfl, _, rfl, _, rfl, (by show 2 ≤ sizeLine; decide), fun t2 n2' => ?_⟩
              obtain ⟨kvs2, dp2, ks2, hp2, hl2, ne2, e2, kq2, pn2⟩ := both H8 0 e8 kp8 (p8.less (by omega)) t2 n2'
              refine ⟨d, _, rfl, dp2, ?_⟩
              exact ⟨_, _, _, kvs2, ks2, rfl, hp2, by omega, ne2, e2, kq2, pn2⟩
            · exact ⟨_, _, _, kvs1, ks1, rfl, hp1, by omega, ne1, e8, kp8, p8.less (by omega)⟩
        · exact ⟨_, _, _, kvs, ks, rfl, hp, by omega, hne, e6, kp6, p6.less (by omega)⟩
      · rintro σ H4 ⟨v7, v8, v9, kvs, ks, rfl, hp, hl, hne, e, kp, pn⟩
        obtain ⟨kv4, hk4⟩ := pn.there
        have keysB : ∀ (kvs : PK) (ks : List (Int × Int)), PairsOk n kvs ks → ∀ kv ∈ kvs, ∃ ns : List Int, kv.1 = ns.map Sum.inl ∧ ns.length = 2 ∧ TS.Bd 64 ns := fun kvs ks hp kv hkv => by
          have h1 : kv.1 ∈ kvs.map (·.1) := List.mem_map.mpr ⟨kv, hkv, rfl⟩
          rw [hp.1] at h1
          obtain ⟨t, ht, e⟩ := List.mem_map.mp h1
          exact ⟨[t.1, t.2], e.symm, rfl, bd_tie (hp.2.2 t ht) (by omega)⟩
        -- one may go
        refine ⟨fun σ' H' => ∃ (d' : Addr) (v7 v8 v9 v10 : Option V) (kvs : PK) (ks : List (Int × Int)), σ' = [some (.ref p), some (.int (m : Int)), some (.bl ways), some (.bl rings), some (.int (n : Int)), some (.ref d'), v6, v7, v8, v9, v10, none] ∧
          PairsOk n kvs ks ∧ ks.length ≤ 40 ∧ H' d' = some (.dT kvs) ∧ Kp H1 H' ∧ Pen H' p c (b + 60), ?_, ?_⟩
        · refine ⟨_, rfl, ways, rfl, ?_⟩
          refine ifT (fun _ => ?_) (fun _ => ?_)
          · refine ⟨_, rfl, p, c, 3, b + 61, rfl, pn.less (by omega), by decide, by decide, fun u H5 u0 u1 p5 B5 => ?_⟩
            have e5 := B5.keep hk4 e (by intro z; cases z)
            have kp5 := kp.trans (.of_but B5 hk4)
            refine ⟨rfl, _, rfl, ?_⟩
            refine ifT (fun _ => ?_) (fun _ => ?_)
            · refine ⟨_, rfl, _, rfl, d, kvs, 2, 64, rfl, .inl e5, by rw [hp.len]; omega, by decide, keysB kvs ks hp, fun bs ys q r pm pw nq => ?_⟩
              obtain ⟨ts, pt, ⟨tn, tok, _⟩, pat⟩ := sorted_ties (K := K) (n := n) (keysP (n := n) r hp.1) hp.2.1 hp.2.2 pm pw
              have tl := ties_len pat
              refine ⟨p, c, q, ys, b + 60, rfl, p5.same (Same.new nq), .inl (SqL.of upd_same), ?_, ?_, fun y i H6 hy p6 B6 => ?_⟩
              · intro z
                rw [z] at tl
                have := pt.length_eq
                exact hne (List.eq_nil_of_length_eq_zero (by rw [← this, ← tl]; rfl))
              · rw [tl, pt.length_eq]; omega
              obtain ⟨t, ht, g, rfl, hg⟩ := ties_get pat hy
              have kq : Kp H5 (upd H5 q (.lst ys)) := .new nq
              obtain ⟨kv5, hk5⟩ := (p5.same (Same.new (o := .lst ys) nq)).there
              have kq6 : Kp H5 H6 := kq.trans (.of_but B6 hk5)
              have e6 : H6 d = some (.dT kvs) := kq6 _ _ e5 (by intro _ z; cases z)
              refine ⟨_, rfl, _, rfl, d, g, n, kvs, ks, t, rfl, e6, kq6.seqT hg, hp, by omega, fun d' kvs' ks' H7 hp' hl' e7 _ s7 => ?_⟩
              exact ⟨d', v7, v8, v9, _, kvs', ks', rfl, hp', by omega, e7, (kp5.trans kq6).trans (.of_same s7), p6.same s7⟩
            · exact ⟨d, v7, v8, v9, none, kvs, ks, rfl, hp, by omega, e5, kp5, p5.less (by omega)⟩
          · exact ⟨d, v7, v8, v9, none, kvs, ks, rfl, hp, by omega, e, kp, pn.less (by omega)⟩
        · rintro σ' Hc ⟨d', v7, v8, v9, v10, kvs, ks, rfl, hp, hl, e, kp, pn⟩
          refine ⟨(by show 0 ≤ sizeLine; decide), fun l nl => ?_⟩
          have lo := pn.off nl
          have ec : (upd Hc l (.lst [])) d' = some (.dT kvs) := Same.new nl _ _ e
          have pnl := pn.same (Same.new (o := .lst []) nl)
          obtain ⟨kvc, hkc⟩ := pnl.there
          refine ⟨fun σ' H' => ∃ (v8 : Option V) (zs : List V) (rs : List (List Int)), σ' = [some (.ref p), some (.int (m : Int)), some (.bl ways), some (.bl rings), some (.int (n : Int)), some (.ref d'), v6, v7, v8, v9, v10, some (.ref l)] ∧
            H' l = some (.lst zs) ∧ Paired (RingAt K H') zs rs ∧ rs.length ≤ 2 ∧ (∀ r ∈ rs, RingOk n r) ∧ Kp Hc H' ∧ Pen H' p c (b + 20), ?_, ?_⟩
          · refine ⟨_, rfl, rings, rfl, ?_⟩
            refine ifT (fun _ => ?_) (fun _ => ?_)
            · refine ⟨_, rfl, _, _, rfl, rfl, _, rfl, ?_⟩
              refine ifT (fun h3 => ?_) (fun _ => ?_)
              · have n3 : (3 : Int) ≤ (n : Int) := of_decide_eq_true h3
                refine ⟨_, rfl, p, c, 3, b + 59, rfl, pnl.less (by omega), by decide, by decide, fun u H5 u0 u1 p5 B5 => ?_⟩
                refine ⟨u, rfl, by omega, by omega, ?_⟩
                refine for_range (lo := 0) (n := u.toNat) (fun i σ H' => ∃ (v8 : Option V) (zs : List V) (rs : List (List Int)), σ = [some (.ref p), some (.int (m : Int)), some (.bl ways), some (.bl rings), some (.int (n : Int)), some (.ref d'), v6, v7, v8, v9, v10, some (.ref l)] ∧
                  H' l = some (.lst zs) ∧ Paired (RingAt K H') zs rs ∧ rs.length = i ∧ (∀ r ∈ rs, RingOk n r) ∧ Kp Hc H' ∧ Pen H' p c (b + 59 - 13 * i))
                  ⟨_, [], [], rfl, B5.keep hkc upd_same (by intro z; cases z), .nil, rfl, (fun r hr => by cases hr), (Kp.new nl).trans (.of_but B5 hkc), p5⟩ ?_ ?_
                · rintro i σ H6 hi ⟨v8, zs, rs, rfl, el, pr, hlen, rok, kp6, p6⟩
                  refine ⟨_, rfl, .inl ⟨rfl, _, SqL.of el⟩, _, rfl, _, rfl, p, c, n, b + 59 - 13 * (i + 1), rfl, p6.less (by omega), by omega, by omega, fun q r H7 rk eq kq p7 => ?_⟩
                  have el7 := kq.lst el
                  refine ⟨l, zs, _, rfl, rfl, el7, by rw [Paired.length pr, hlen]; exact Nat.lt_of_lt_of_le (by omega : i < 1000) (by decide), ?_⟩
                  have K7 : Kp Hc (upd H7 l (.lst (zs ++ [V.ref q]))) := (kp6.trans kq).upd nl
                  have same7 : ∀ {y : V} {r : List Int}, RingAt K H7 y r → RingAt K (upd H7 l (.lst (zs ++ [V.ref q]))) y r := fun h => by
                    obtain ⟨b', e', h'⟩ := h
                    refine ⟨b', e', ?_⟩
                    rcases h' with (h' | ⟨o, h'⟩) | h'
                    · exact .inl (.inl (by rw [upd_ne (ne_of h' el7 (by intro z; cases z))]; exact h'))
                    · exact .inl (.inr ⟨o, by rw [upd_ne (ne_of h' el7 (by intro z; cases z))]; exact h'⟩)
                    · exact .inr h'
                  have pr7 : Paired (RingAt K (upd H7 l (.lst (zs ++ [V.ref q])))) (zs ++ [V.ref q]) (rs ++ [r]) := by
                    refine rings_snoc ?_ (same7 ⟨q, rfl, SqT.of eq⟩)
                    have := rings_kp pr kq
                    clear pr el el7 hlen rok
                    revert same7
                    intro same7
                    exact rings_map (fun y r h => same7 h) this
                  exact ⟨_, _, rs ++ [r], rfl, upd_same, pr7, by rw [List.length_append, hlen]; rfl, fun r' hr' => by
                    rcases List.mem_append.mp hr' with h | h
                    · exact rok r' h
                    · rw [List.mem_singleton.mp h]; exact rk, K7, p7.upd lo.1 lo.2⟩
                · rintro σ H6 ⟨v8, zs, rs, rfl, el, pr, hlen, rok, kp6, p6⟩
                  exact ⟨v8, zs, rs, rfl, el, pr, by omega, rok, kp6, p6.less (by omega)⟩
              · exact ⟨_, [], [], rfl, upd_same, .nil, by decide, (fun r hr => by cases hr), .new nl, pnl.less (by omega)⟩
            · exact ⟨_, [], [], rfl, upd_same, .nil, by decide, (fun r hr => by cases hr), .new nl, pnl.less (by omega)⟩
          · rintro σ' H5 ⟨v8, zs, rs, rfl, el, pr, hrs, rok, kp5, p5⟩
            have e5 : H5 d' = some (.dT kvs) := kp5 _ _ e (by intro _ z; cases z)
            refine ⟨_, rfl, _, rfl, d', kvs, 2, 64, rfl, .inl e5, by rw [hp.len]; omega, by decide, keysB kvs ks hp, fun bs ys q r pm pw nq => ?_⟩
            obtain ⟨ts, pt, tok, pat⟩ := sorted_ties (K := K) (n := n) (keysP (n := n) r hp.1) hp.2.1 hp.2.2 pm pw
            refine ⟨q, ys, rfl, .inl ⟨SqL.of upd_same, fun a na => ?_⟩⟩
            refine ⟨_, rfl, l, zs, rfl, .inl ⟨SqL.of (Same.new na _ _ (Same.new nq _ _ el)), fun e' ne' => ?_⟩⟩
            refine ⟨(by show 3 ≤ sizeLine; decide), fun y ny => ?_⟩
            have S : Same H5 (upd (upd (upd H5 q (.lst ys)) a (.tup ys)) e' (.tup zs)) := ((Same.new nq).trans (Same.new na)).trans (Same.new ne')
            have S' : Same H5 (upd (upd (upd (upd H5 q (.lst ys)) a (.tup ys)) e' (.tup zs)) y (.tup [.int (n : Int), .ref a, .ref e'])) := S.trans (Same.new ny)
            refine k y n ts rs _ ⟨a, e', ys, zs, SqT.of upd_same, SqT.of (Same.new ny _ _ (Same.new ne' _ _ upd_same)), ties_kp pat (.of_same S'), SqT.of (Same.new ny _ _ upd_same), rings_kp pr (.of_same S')⟩ ⟨by omega, by omega, tok, by rw [pt.length_eq]; omega, rok, hrs⟩ nm (((kp1.trans kp).trans kp5).trans (.of_same S')) ((p5.same S').less (by omega))
end
end Y
set_option Elab.async false
set_option linter.all false
set_option maxRecDepth 100000
set_option maxHeartbeats 4000000
namespace Y
open PySem L2
abbrev sSYard : Stmt := top 999
def spSYard (K : PySem.W.Frag) : Sp := fun vs H Q _ => ∃ (p c : Addr) (m b : Nat), vs = [.ref p, .int (m : Int)] ∧ Pen H p c (b + 103) ∧ 2 ≤ m ∧ m ≤ 12 ∧
  ∀ q n ts rs H', YdAt K H' q n ts rs → YdOk n ts rs → n ≤ m → Kp H H' → Pen H' p c b → Q (.ref q) H'
section
variable {P : Program} {w : World} {K : PySem.W.Frag} {mg : Str → Option Value} {base : Heap} {fDraw fDYard : Addr}
end
end Y
set_option Elab.async false
set_option linter.all false
set_option maxRecDepth 100000
set_option maxHeartbeats 4000000
namespace Y
open PySem L2
abbrev sListed : Stmt := top 999
/-- at y: a row, as a list or a tuple -/
def RowAt (K : PySem.W.Frag) (H : Hp) (y : V) (ns : List Int) : Prop := ∃ b, y = .ref b ∧ (SqL K H b (ns.map V.int) ∨ SqT K H b (ns.map V.int))
theorem RowAt.kp {K : PySem.W.Frag} {H H' : Hp} {y : V} {r : List Int} (h : RowAt K H y r) (s : Kp H H') : RowAt K H' y r := by
  obtain ⟨b, e, h⟩ := h
  exact ⟨b, e, s.seq h⟩
theorem rows_kp {K : PySem.W.Frag} {H H' : Hp} {ys : List V} {rs : List (List Int)} (h : Paired (RowAt K H) ys rs) (s : Kp H H') : Paired (RowAt K H') ys rs := rings_map (fun _ _ h => h.kp s) h
theorem rows_snoc {R : V → List Int → Prop} {ys : List V} {rs : List (List Int)} {y : V} {r : List Int} (h : Paired R ys rs) (a : R y r) : Paired R (ys ++ [y]) (rs ++ [r]) := by
  induction h with
  | nil => exact .cons a .nil
  | cons b _ ih => exact .cons b ih
theorem paired_get {R : V → List Int → Prop} {ys : List V} {rs : List (List Int)} (h : Paired R ys rs) : ∀ {i : Nat} {y : V}, ys[i]? = some y → ∃ r, rs[i]? = some r ∧ R y r := by
  induction h with
  | nil => intro i y e; simp at e
  | cons a _ ih =>
    intro i y e
    cases i with
    | zero => cases Option.some.inj e; exact ⟨_, rfl, a⟩
    | succ i => exact ih e
theorem ty_tup {K : PySem.W.Frag} {H : Hp} {a : Addr} {xs : List V} (h : SqT K H a xs) : TyX K H (.ref a) (.type "tuple") := by
  rcases h with (h | ⟨o, h⟩) | ⟨o, its, n, l, c, _⟩
  · exact .base (.tup h)
  · exact .fTuple h
  · exact .kTuple l c
/-- a row that is not empty stands when the list of rows grows -/
theorem RowAt.grow {K : PySem.W.Frag} {H : Hp} {D : Addr} {zs : List V} {o : HO} {v : V} {r : List Int} (h : RowAt K H v r) (hr : r ≠ []) (e : H D = some (.lst zs)) (hz : ∀ x ∈ zs, ∃ b, x = V.ref b) : RowAt K (upd H D o) v r := by
  obtain ⟨b, e', h⟩ := h
  have nl : ∀ {u : HO}, H b = some u → u ≠ .lst zs → b ≠ D := fun h1 h2 z => h2 (by rw [z, e] at h1; exact (Option.some.inj h1).symm)
  refine ⟨b, e', ?_⟩
  rcases h with ((h | ⟨o, h⟩) | h) | ((h | ⟨o, h⟩) | h)
  · refine .inl (.inl (.inl ?_))
    rw [upd_ne (nl h fun z => ?_)]
    · exact h
    · obtain ⟨a, l, rfl⟩ := List.exists_cons_of_ne_nil hr
      injection z with z
      obtain ⟨b', e2⟩ := hz (.int a) (by rw [← z]; exact List.mem_cons_self)
      cases e2
  · exact .inl (.inl (.inr ⟨o, by rw [upd_ne (nl h (by intro z; cases z))]; exact h⟩))
  · exact .inl (.inr h)
  · exact .inr (.inl (.inl (by rw [upd_ne (nl h (by intro z; cases z))]; exact h)))
  · exact .inr (.inl (.inr ⟨o, by rw [upd_ne (nl h (by intro z; cases z))]; exact h⟩))
  · exact .inr (.inr h)
theorem rows_refs {K : PySem.W.Frag} {H : Hp} {zs : List V} {rs : List (List Int)} (h : Paired (RowAt K H) zs rs) : ∀ x ∈ zs, ∃ b, x = V.ref b := by
  induction h with
  | nil => intro x hx; cases hx
  | cons a _ ih =>
    intro x hx
    rcases List.mem_cons.mp hx with rfl | hx
    · obtain ⟨b, e, _⟩ := a; exact ⟨b, e⟩
    · exact ih x hx
theorem rows_grow {K : PySem.W.Frag} {H : Hp} {D : Addr} {zs xs : List V} {o : HO} {rs : List (List Int)} (h : Paired (RowAt K H) xs rs) (hr : ∀ r ∈ rs, r ≠ []) (e : H D = some (.lst zs)) (hz : ∀ x ∈ zs, ∃ b, x = V.ref b) : Paired (RowAt K (upd H D o)) xs rs := by
  induction h with
  | nil => exact .nil
  | cons a _ ih => exact .cons (a.grow (hr _ List.mem_cons_self) e hz) (ih fun r h => hr r (List.mem_cons_of_mem _ h))
def spL1 (K : PySem.W.Frag) : Sp := fun vs H Q _ => ∃ (p c s : Addr) (ns : List Int) (b : Nat), vs = [.ref p, .ref s] ∧ Pen H p c (b + 1) ∧ SqT K H s (ns.map V.int) ∧ ns.length ≤ 100 ∧
  ∀ q H', RowAt K H' (.ref q) ns → Kp H H' → Pen H' p c b → Q (.ref q) H'
def spL2 (K : PySem.W.Frag) : Sp := fun vs H Q _ => ∃ (p c s : Addr) (ys : List V) (rows : List (List Int)) (b : Nat), vs = [.ref p, .ref s] ∧ Pen H p c (b + (rows.length + 1)) ∧ SqT K H s ys ∧ Paired (TupI K H) ys rows ∧ rows.length ≤ 100 ∧ (∀ r ∈ rows, r.length ≤ 100 ∧ r ≠ []) ∧
  ∀ q zs H', (SqL K H' q zs ∨ SqT K H' q zs) → Paired (RowAt K H') zs rows → Kp H H' → Pen H' p c b → Q (.ref q) H'
structure TLs (K : PySem.W.Frag) (mg : Str → Option Value) (fDraw fL : Addr) : Prop where
  g : TG K mg fDraw
  isi : mg "isinstance" = none
  gL : mg "_law_listed" = some (.ref fL)
section
variable {P : Program} {w : World} {K : PySem.W.Frag} {mg : Str → Option Value} {base : Heap} {fDraw : Addr}
theorem isi_at {X : Cx} {K : PySem.W.Frag} (e : X.K = K) : CallR X (.builtin "isinstance") (rIsi K) := by
  subst e
  exact call_isi
end
end Y
set_option Elab.async false
set_option linter.all false
set_option maxRecDepth 100000
set_option maxHeartbeats 4000000
namespace Y
open PySem L2
abbrev sMoves : Stmt := top 45
abbrev sAll : Stmt := top 999
inductive Mv where
  | slide (a b : Int)
  | turn (k : Int)
deriving DecidableEq
def Mv.vs : Mv → List V
  | .slide a b => [.str "slide", .int a, .int b]
  | .turn k => [.str "turn", .int k]
def MvAt (K : PySem.W.Frag) (H : Hp) (y : V) (m : Mv) : Prop := ∃ b, y = .ref b ∧ SqT K H b m.vs
theorem MvAt.kp {K : PySem.W.Frag} {H H' : Hp} {y : V} {m : Mv} (h : MvAt K H y m) (s : Kp H H') : MvAt K H' y m := by
  obtain ⟨b, e, h⟩ := h
  exact ⟨b, e, s.seqT h⟩
theorem par_map {α β : Type} {R R' : α → β → Prop} {ys : List α} {rs : List β} (f : ∀ y r, R y r → R' y r) (h : Paired R ys rs) : Paired R' ys rs := by
  induction h with
  | nil => exact .nil
  | cons a _ ih => exact .cons (f _ _ a) ih
theorem par_snoc {α β : Type} {R : α → β → Prop} {ys : List α} {rs : List β} {y : α} {r : β} (h : Paired R ys rs) (a : R y r) : Paired R (ys ++ [y]) (rs ++ [r]) := by
  induction h with
  | nil => exact .cons a .nil
  | cons b _ ih => exact .cons b ih
theorem par_app {α β : Type} {R : α → β → Prop} {ys zs : List α} {rs ss : List β} (h : Paired R ys rs) (g : Paired R zs ss) : Paired R (ys ++ zs) (rs ++ ss) := by
  induction h with
  | nil => exact g
  | cons b _ ih => exact .cons b ih
theorem par_get {α β : Type} {R : α → β → Prop} {ys : List α} {rs : List β} (h : Paired R ys rs) : ∀ {i : Nat} {y : α}, ys[i]? = some y → ∃ r, rs[i]? = some r ∧ R y r := by
  induction h with
  | nil => intro i y e; simp at e
  | cons a _ ih =>
    intro i y e
    cases i with
    | zero => cases Option.some.inj e; exact ⟨_, rfl, a⟩
    | succ i => exact ih e
theorem seqT_off {K : PySem.W.Frag} {H : Hp} {D b : Addr} {zs xs : List V} {o : HO} (h : SqT K H b xs) (e : H D = some (.lst zs)) : SqT K (upd H D o) b xs := by
  rcases h with (h | ⟨u, h⟩) | h
  · exact .inl (.inl (by rw [upd_ne (ne_of h e (by intro z; cases z))]; exact h))
  · exact .inl (.inr ⟨u, by rw [upd_ne (ne_of h e (by intro z; cases z))]; exact h⟩)
  · exact .inr h
theorem MvAt.off {K : PySem.W.Frag} {H : Hp} {D : Addr} {zs : List V} {y : V} {m : Mv} {o : HO} (h : MvAt K H y m) (e : H D = some (.lst zs)) : MvAt K (upd H D o) y m := by
  obtain ⟨b, e', h⟩ := h
  exact ⟨b, e', seqT_off h e⟩
abbrev MvsAt (K : PySem.W.Frag) (H : Hp) (ys : List V) (ms : List Mv) : Prop := Paired (MvAt K H) ys ms
/-! ### which moves there are -/
def slideOf (t : Int × Int) : Mv := .slide t.1 t.2
def turns (n : Nat) : List Mv := (List.range n).map fun k => .turn (k : Nat)
def allMoves (ts : List (Int × Int)) (rs : List (List Int)) : List Mv := ts.map slideOf ++ turns rs.length
def gAt (st : List Int) (i : Int) : Int := st.getD i.toNat 0
def canSlide (st : List Int) (t : Int × Int) : Bool := decide (0 < gAt st t.1) && decide (gAt st t.2 = 0)
def movesOf (ts : List (Int × Int)) (rs : List (List Int)) (st : List Int) : List Mv := (ts.filter (canSlide st)).map slideOf ++ turns rs.length
def spAll (K : PySem.W.Frag) : Sp := fun vs H Q _ => ∃ (q : Addr) (n : Nat) (ts : List (Int × Int)) (rs : List (List Int)), vs = [.ref q] ∧ YdAt K H q n ts rs ∧ ts.length ≤ 1000 ∧ rs.length ≤ 1000 ∧
  ∀ l ys H', H' l = some (.lst ys) → MvsAt K H' ys (allMoves ts rs) → Same H H' → Q (.ref l) H'
def spMoves (K : PySem.W.Frag) : Sp := fun vs H Q _ => ∃ (q s : Addr) (n : Nat) (ts : List (Int × Int)) (rs : List (List Int)) (st : List Int), vs = [.ref q, .ref s] ∧ YdAt K H q n ts rs ∧ ts.length ≤ 1000 ∧ rs.length ≤ 1000 ∧ (∀ t ∈ ts, TieOk n t) ∧ SqT K H s (st.map V.int) ∧ st.length = n ∧
  ∀ l ys H', H' l = some (.lst ys) → MvsAt K H' ys (movesOf ts rs st) → Same H H' → Q (.ref l) H'
theorem turns_succ (n : Nat) : turns (n + 1) = turns n ++ [.turn (n : Nat)] := by
  unfold turns
  rw [List.range_succ, List.map_append]
  rfl
section
variable {P : Program} {w : World} {K : PySem.W.Frag} {mg : Str → Option Value} {base : Heap} {fDraw : Addr}
theorem Same.upd_new {H H' : Hp} {a : Addr} {o : HO} (s : Same H H') (h : H a = none) : Same H (upd H' a o) := fun b u e => by rw [upd_ne (ne_of_none e h)]; exact s b u e
theorem pgT {X : Cx} {K : PySem.W.Frag} {es : List Expr} {k : Nat} {t : TGs} {n : Nat} {pos : Pos} (eK : X.K = K) (hc : X.calm = true) (h : PGs X es t) (hn : (assignEach es X.env).length = n) (hst : (assignEach es X.env).findIdx? (·.1) = none) : PG X (.Tuple es k pos) (gTup K n t) := by
  subst eK
  exact pg_tup hc h hn hst
/-- the second half: the turns -/
theorem lc_turns {K : PySem.W.Frag} {n : Nat} {vs : List Nat} {σ : L2.St} {H0 H1 : Hp} {D : Addr} {i : Nat} {Qd : Hp → Prop} (s0 : Same H0 H1) (hn : H1 D = none) (hz : n ≤ 1000) (hk : ∀ (v : V), (wipe σ vs).set i (some v) = (wipe σ vs).set i (some v) → wipe ((wipe σ vs).set i (some v)) vs = wipe σ vs) (hi : ∀ v : V, ((wipe σ vs).set i (some v))[i]? = some (some v))
    (hd : ∀ zs H', H' D = some (.lst zs) → MvsAt K H' zs (turns n) → Same H1 H' → Qd H') :
    ∃ W : Nat → Nat → Hp → Prop, (∃ m, W 0 m (upd H1 D (.lst []))) ∧ ∀ j m H, W j m H →
      ((Itr 0 n).stop j H ∧ Qd H) ∨ ((Itr 0 n).go j H ∧ ∃ Nx : Hp → Prop, (∀ H', Nx H' → ∃ m', m' < m ∧ W (j + 1) m' H') ∧ ∀ x H', (Itr 0 n).yld j H x H' → gName i x (wipe σ vs) H' fun σ2 H2 => wipe σ2 vs = wipe σ vs ∧ tYes σ2 H2 fun b H3 =>
        if b = true then tTup (tCons (tC (.str "turn")) (tCons (tVar i) tNil)) σ2 H3 fun y H4 => ∃ acc, H4 D = some (.lst acc) ∧ acc.length < sizeLine ∧ Nx (upd H4 D (.lst (acc ++ [y]))) else Nx H3) := by
  refine lc_range (lo := 0) (n := n) (fun j H => ∃ zs, H D = some (.lst zs) ∧ MvsAt K H zs (turns j) ∧ zs.length = j ∧ Same H1 H) ⟨[], upd_same, .nil, rfl, Same.new hn⟩ (fun j H hj h => ?_) (fun H h => ?_)
  · obtain ⟨zs, e, p, l, s⟩ := h
    refine ⟨hk _ rfl, ?_⟩
    refine ⟨_, hi _, (by show 2 ≤ sizeLine; decide), fun t nt => ?_⟩
    have e1 : (upd H t (.tup [.str "turn", .int (0 + (j : Int))])) D = some (.lst zs) := Same.new nt _ _ e
    refine ⟨zs, e1, by rw [l]; exact Nat.lt_of_lt_of_le (by omega : j < 1001) (by decide), zs ++ [V.ref t], upd_same, ?_, by rw [List.length_append, l]; rfl, Same.upd_new (s.trans (Same.new nt)) hn⟩
    rw [turns_succ]
    refine par_snoc (par_map (fun y m h => (h.kp (.new nt)).off e1) p) ⟨t, rfl, ?_⟩
    refine seqT_off (SqT.of ?_) e1
    rw [upd_same]
    show some (HO.tup [.str "turn", .int (0 + (j : Int))]) = some (.tup [.str "turn", .int (j : Nat)])
    rw [Int.zero_add]
  · obtain ⟨zs, e, p, _, s⟩ := h
    exact hd zs H e p s
end
end Y
set_option Elab.async false
set_option linter.all false
set_option maxRecDepth 100000
set_option maxHeartbeats 4000000
namespace Y
open PySem L2
theorem ixT_at {X : Cx} {K : PySem.W.Frag} (e : X.K = K) : IxR X (rIxT K) := by
  subst e
  exact ix_tup
theorem atI_st {st : List Int} {i : Int} (h0 : 0 ≤ i) (h1 : i < st.length) : atI (st.map V.int) i = some (.int (gAt st i)) := by
  refine atI_int h0 ?_
  have h : i.toNat < st.length := by omega
  rw [List.getElem?_map, List.getElem?_eq_getElem h]
  unfold gAt
  rw [List.getD_eq_getElem?_getD, List.getElem?_eq_getElem h]
  rfl
theorem filter_snoc {α : Type} (p : α → Bool) (l : List α) (t : α) : (l ++ [t]).filter p = if p t = true then l.filter p ++ [t] else l.filter p := by
  rw [List.filter_append]
  by_cases h : p t = true
  · rw [if_pos h]; simp [h]
  · rw [if_neg h]; simp [h]
section
variable {P : Program} {w : World} {K : PySem.W.Frag} {mg : Str → Option Value} {base : Heap} {fDraw : Addr}
theorem scMoves : FnScope ["_law_yard", "_law_stand", "_law_found", "_law_a", "_law_b", "_law_k"] ["_law_yard", "_law_stand"] (defScope sMoves) := ⟨rfl, rfl, rfl, by decide +kernel, rfl, by decide +kernel, by decide +kernel⟩
theorem ok_moves {f : Addr} {fd : FuncData} (F : Fun K "_law_moves" "_law_moves" sMoves f fd) (T : TG K mg fDraw) : FnOk P w K mg base CX0 1 f fd ["_law_yard", "_law_stand"] (spMoves K) := by
  refine F.ok scMoves (fun vs H Q E h => ?_) (fun cdv A outer s H vs Q E hr h => ?_)
  · obtain ⟨q, s, n, ts, rs, st, rfl, _⟩ := h
    rfl
  · obtain ⟨q, s, n, ts, rs, st, rfl, ⟨a, e, ys, zs, hq, ha, pa, he, pe⟩, hts, hrs, tok, hs, hst, k⟩ := h
    refine ⟨_, pss_cons (ps_setLc (own := [("_law_a", 3), ("_law_b", 4)]) (i := 2) (g := gTup K 2 (gCons (gName 3) (gCons (gName 4) gNil))) rfl scMoves.nd rfl rfl (sw_true rfl rfl rfl (by decide +kernel)) (pi_tup (pe_ix ix_tup (pv 0) pe_int (fun _ _ => rfl))) (blkOk_by (N := ["_law_yard", "_law_stand", "_law_found", "_law_a", "_law_b", "_law_k"]) (sc := defScope sMoves) (by decide +kernel))
        (fun _ _ _ _ _ => pgT (K := K) (n := 2) rfl rfl (pgs_cons (pg_name (i := 3) scMoves.nd rfl (Or.inl rfl)) (pgs_cons (pg_name (i := 4) scMoves.nd rfl (Or.inl rfl)) pgs_nil)) rfl rfl)
        (fun _ _ _ _ _ => pts_one (PW.pt (pw_and (pt_cmpR op_gt (pe_ix (ixT_at (K := K) rfl) (pv 1) (pv 3) (fun _ _ => rfl)) pe_int (nomark _)) (pw_and1 (pt_cmpR op_eq (pe_ix (ixT_at (K := K) rfl) (pv 1) (pv 4) (fun _ _ => rfl)) pe_int (nomark _))))))
        (fun _ _ _ _ _ => pe_tup (pa_cons pe_str (pa_cons (pv 3) (pa_cons (pv 4) pa_nil)))))
      (pss_one (ps_ret (pe_op op_cat (pv 2)
      (pe_lc (own := [("_law_k", 5)]) (g := gName 5) (tt := tYes) rfl scMoves.nd (pi_range1 (by rfl) T.range (pa_cons (pe_callB call_len_seq (by rfl) T.p.len PySem.boot_len (pa_cons (pe_ix ix_tup (pv 0) pe_int (fun _ _ => rfl)) pa_nil)) pa_nil)) (blkOk_by (N := ["_law_yard", "_law_stand", "_law_found", "_law_a", "_law_b", "_law_k"]) (sc := defScope sMoves) (by decide +kernel))
        (fun _ _ _ _ _ => pg_name (i := 5) scMoves.nd rfl (Or.inl rfl)) (fun _ _ _ _ _ => pts_nil) (fun _ _ _ _ _ => pe_tup (pa_cons pe_str (pa_cons (pv 5) pa_nil))))))), ?_⟩
    have hyl : ys.length = ts.length := ties_len pa
    have hzl : zs.length = rs.length := Paired.length pe
    refine ⟨_, rfl, q, _, 1, _, rfl, rfl, hq, atI_nat (j := 1) rfl, a, rfl, ⟨_, ha⟩, fun D hD => ?_⟩
    refine lc_tup (K := K) (a := a) (xs := ys) (fun i H' => ∃ ws, H' D = some (.lst ws) ∧ MvsAt K H' ws (((ts.take i).filter (canSlide st)).map slideOf) ∧ ws.length ≤ i ∧ Same H H') ⟨[], upd_same, .nil, Nat.le_refl 0, Same.new hD⟩ (fun i H' _ ⟨_, _, _, _, s⟩ => Same.seqT s ha) (fun i x H1 hx h => ?_) (fun H1 h => ?_)
    · obtain ⟨ws, eD, pw, lw, s1⟩ := h
      obtain ⟨t, et, b, rfl, hb⟩ := ties_get pa hx
      have hi : i < ts.length := by
        rcases Nat.lt_or_ge i ts.length with h | h
        · exact h
        · rw [List.getElem?_eq_none h] at et; cases et
      obtain ⟨a0, a1, b0, b1, _⟩ := tok t (List.mem_of_getElem? et)
      rw [← hst] at a1 b1
      refine ⟨b, _, rfl, Same.seqT s1 hb, rfl, _, _, rfl, _, _, rfl, rfl, rfl, ?_⟩
      have no : canSlide st t = false → ∃ ws, H1 D = some (.lst ws) ∧ MvsAt K H1 ws (((ts.take (i + 1)).filter (canSlide st)).map slideOf) ∧ ws.length ≤ i + 1 ∧ Same H H1 := fun c => ⟨ws, eD, by rw [take_next et, filter_snoc, c]; exact pw, by omega, s1⟩
      refine ⟨_, rfl, _, rfl, s, _, t.1, _, rfl, rfl, Same.seqT s1 hs, atI_st a0 a1, _, _, rfl, rfl, _, rfl, ?_⟩
      refine ifT (fun c1 => ?_) (fun c1 => ?_)
      · refine ⟨_, rfl, _, rfl, s, _, t.2, _, rfl, rfl, Same.seqT s1 hs, atI_st b0 b1, rfl, _, rfl, ?_⟩
        refine ifT (fun c2 => ?_) (fun c2 => ?_)
        · have c : canSlide st t = true := by
            unfold canSlide
            rw [dec_int] at c2
            rw [c1, decide_eq_true (eq_of_beq c2)]
            rfl
          refine ⟨_, rfl, _, rfl, (by show 3 ≤ sizeLine; decide), fun m nm => ?_⟩
          have e1 := Same.new nm (o := .tup [.str "slide", .int t.1, .int t.2]) _ _ eD
          refine ⟨ws, e1, Nat.lt_of_le_of_lt (by omega : ws.length ≤ 1001) (by decide), ws ++ [V.ref m], upd_same, ?_, by rw [List.length_append]; exact Nat.succ_le_succ lw, Same.upd_new (s1.trans (Same.new nm)) hD⟩
          rw [take_next et, filter_snoc, if_pos c, List.map_append]
          exact par_snoc (par_map (fun y m' h => (h.kp (.new nm)).off e1) pw) ⟨m, rfl, seqT_off (SqT.of upd_same) e1⟩
        · refine no ?_
          rw [dec_int] at c2
          have ne : ¬ gAt st t.2 = 0 := fun z => by rw [z] at c2; exact absurd c2 (by decide)
          show (decide (0 < gAt st t.1) && decide (gAt st t.2 = 0)) = false
          rw [decide_eq_false ne, Bool.and_false]
      · refine no ?_
        unfold canSlide
        rw [c1, Bool.false_and]
    · obtain ⟨ws, eD, pw, lw, s1⟩ := h
      rw [hyl, List.take_length] at pw
      refine ⟨_, rfl, _, rfl, q, _, 2, _, rfl, rfl, Same.seqT s1 hq, atI_nat (j := 2) rfl, e, zs, rfl, .inr (Same.seqT s1 he), (zs.length : Int), rfl, by omega, by omega, fun D2 hD2 => ?_⟩
      refine lc_turns (K := K) s1 hD2 (by omega) (fun v _ => rfl) (fun v => rfl) fun us H2 e2 p2 s2 => ?_
      have eD2 := s2 _ _ eD
      refine ⟨D, D2, ws, us, rfl, rfl, eD2, e2, Nat.le_trans (by rw [Paired.length p2, turns, List.length_map, List.length_range]; omega : ws.length + us.length ≤ 2000) (by decide), fun l nl => ?_⟩
      have hz : ((zs.length : Int)).toNat = rs.length := by omega
      rw [hz] at p2
      exact k l (ws ++ us) _ upd_same (par_app (par_map (fun y m h => h.kp ((Kp.of_same s2).trans (.new nl))) pw) (par_map (fun y m h => h.kp (.new nl)) p2)) ((s1.trans s2).trans (Same.new nl))
end
end Y
set_option Elab.async false
set_option linter.all false
set_option maxRecDepth 100000
set_option maxHeartbeats 2000000
namespace Y
open PySem L2
theorem gset_go {i : Nat} {v : V} {σ σ' : L2.St} {H : Hp} {Q : L2.St → Hp → Prop} (h : σ.set i (some v) = σ') (k : Q σ' H) : gName i v σ H Q := by
  subst h
  exact k
theorem sq_st {t : TS} {D : Ends} {σ σ' : L2.St} {H : Hp} (h : σ = σ') (k : t D σ' H) : t D σ H := by
  subst h
  exact k
theorem iteT' {c : Bool} {A B : Prop} (h : c = true) (a : A) : if c = true then A else B := by rw [if_pos h]; exact a
theorem iteF' {c : Bool} {A B : Prop} (h : c = false) (b : B) : if c = true then A else B := by rw [if_neg (by rw [h]; exact Bool.false_ne_true)]; exact b
theorem yes_if {σ : L2.St} {H : Hp} {A B : Hp → Prop} (h : A H) : tYes σ H (fun b H3 => if b = true then A H3 else B H3) := by
  unfold tYes
  exact iteT h
theorem room65 {k : Nat} {A : Around} (r : Room k A) : A.units + 65 < cLine := by have := r.un; omega
end Y
set_option Elab.async false
set_option linter.all false
set_option maxRecDepth 100000
set_option maxHeartbeats 4000000
namespace Y
open PySem L2
/-! ### a row of moves taken back -/
def ringLen (rs : List (List Int)) (k : Int) : Nat := (rs.getD k.toNat []).length
def backOne (ts : List (Int × Int)) (rs : List (List Int)) : Mv → Option (List Mv)
  | .turn k => some (List.replicate (ringLen rs k - 1) (.turn k))
  | .slide a b => if (b, a) ∈ ts then some [.slide b a] else none
def backs (ts : List (Int × Int)) (rs : List (List Int)) : List Mv → Option (List Mv)
  | [] => some []
  | m :: l => (backOne ts rs m).bind fun x => (backs ts rs l).map (x ++ ·)
theorem backs_app {ts : List (Int × Int)} {rs : List (List Int)} : ∀ (l l2 : List Mv), backs ts rs (l ++ l2) = (backs ts rs l).bind fun x => (backs ts rs l2).map (x ++ ·)
  | [], l2 => by
    show backs ts rs l2 = (some []).bind fun x => (backs ts rs l2).map (x ++ ·)
    cases backs ts rs l2 <;> rfl
  | m :: l, l2 => by
    show (backOne ts rs m).bind (fun x => (backs ts rs (l ++ l2)).map (x ++ ·)) = ((backOne ts rs m).bind fun x => (backs ts rs l).map (x ++ ·)).bind fun x => (backs ts rs l2).map (x ++ ·)
    rw [backs_app l l2]
    cases backOne ts rs m with
    | none => rfl
    | some x =>
      cases backs ts rs l with
      | none => rfl
      | some y =>
        cases backs ts rs l2 with
        | none => rfl
        | some z => show some (x ++ (y ++ z)) = some (x ++ y ++ z); rw [List.append_assoc]
theorem backs_snoc {ts : List (Int × Int)} {rs : List (List Int)} {l : List Mv} {m : Mv} {x : List Mv} (h : backs ts rs l = some x) : backs ts rs (l ++ [m]) = (backOne ts rs m).map (x ++ ·) := by
  rw [backs_app, h]
  show ((backOne ts rs m).bind fun y => (some []).map (y ++ ·)).map (x ++ ·) = _
  cases backOne ts rs m with
  | none => rfl
  | some y => show some (x ++ (y ++ [])) = some (x ++ y); rw [List.append_nil]
theorem backs_fail {ts : List (Int × Int)} {rs : List (List Int)} {l l2 : List Mv} {m : Mv} (h : backOne ts rs m = none) : backs ts rs (l ++ m :: l2) = none := by
  rw [backs_app]
  show (backs ts rs l).bind (fun x => ((backOne ts rs m).bind fun y => (backs ts rs l2).map (y ++ ·)).map (x ++ ·)) = none
  rw [h]
  cases backs ts rs l <;> rfl
/-- a move of this yard's kind: a turn names one of its rings -/
def MvOk (rs : List (List Int)) : Mv → Prop
  | .turn k => 0 ≤ k ∧ k < rs.length
  | .slide _ _ => True
/-- what taking back tells: None, or a tuple of moves -/
def TkAt (K : PySem.W.Frag) (H : Hp) (v : V) : Option (List Mv) → Prop
  | none => v = .non
  | some bs => ∃ t ws, v = .ref t ∧ SqT K H t ws ∧ MvsAt K H ws bs
theorem TkAt.kp {K : PySem.W.Frag} {H H' : Hp} {v : V} {o : Option (List Mv)} (h : TkAt K H v o) (s : Kp H H') : TkAt K H' v o := by
  cases o with
  | none => exact h
  | some bs => obtain ⟨t, ws, e, h1, h2⟩ := h; exact ⟨t, ws, e, s.seqT h1, par_map (fun y m h => h.kp s) h2⟩
def spBack (K : PySem.W.Frag) : Sp := fun vs H Q _ => ∃ (q l : Addr) (n : Nat) (ts : List (Int × Int)) (rs : List (List Int)) (ys : List V) (ms : List Mv), vs = [.ref q, .ref l] ∧ YdAt K H q n ts rs ∧ (∀ r ∈ rs, r.length ≤ 100 ∧ 1 ≤ r.length) ∧ SqL K H l ys ∧ MvsAt K H ys ms ∧ ms.length ≤ 100 ∧ (∀ m ∈ ms, MvOk rs m) ∧
  ∀ v H', TkAt K H' v (backs ts rs ms.reverse) → Same H H' → Q v H'
theorem par_rev {α β : Type} {R : α → β → Prop} {ys : List α} {rs : List β} (h : Paired R ys rs) : Paired R ys.reverse rs.reverse := by
  induction h with
  | nil => exact .nil
  | cons a _ ih => rw [List.reverse_cons, List.reverse_cons]; exact par_snoc ih a
theorem par_rep {α β : Type} {R : α → β → Prop} {y : α} {r : β} (h : R y r) : ∀ n, Paired R (List.replicate n y) (List.replicate n r)
  | 0 => .nil
  | n + 1 => .cons h (par_rep h n)
theorem rep_flat {α : Type} (x : α) : ∀ n, (List.replicate n [x]).flatten = List.replicate n x
  | 0 => rfl
  | n + 1 => by rw [List.replicate_succ, List.flatten_cons, rep_flat x n]; rfl
theorem ring_at {rs : List (List Int)} {zs : List V} {K : PySem.W.Frag} {H : Hp} {k : Int} (h : Paired (RingAt K H) zs rs) (h0 : 0 ≤ k) (h1 : k < rs.length) : ∃ b r, zs[k.toNat]? = some (.ref b) ∧ rs[k.toNat]? = some r ∧ SqT K H b (r.map V.int) ∧ ringLen rs k = r.length := by
  have hl := Paired.length h
  have hk : k.toNat < zs.length := by omega
  obtain ⟨r, er, b, e, hb⟩ := par_get h (List.getElem?_eq_getElem hk)
  refine ⟨b, r, by rw [List.getElem?_eq_getElem hk, e], er, hb, ?_⟩
  unfold ringLen
  rw [List.getD_eq_getElem?_getD, er]
  rfl
end Y
set_option Elab.async false
set_option linter.all false
set_option maxRecDepth 100000
set_option maxHeartbeats 4000000
namespace Y
open PySem L2
abbrev sMoved : Stmt := top 46
/-! ### what a move does to a stand -/
def turnTo (r st : List Int) (n : Nat) : List Int := (List.range n).foldl (fun acc j => acc.set (r.getD ((j + 1) % r.length) 0).toNat (gAt st (r.getD j 0))) st
def stepMv (rs : List (List Int)) (st : List Int) : Mv → List Int
  | .slide a b => (st.set a.toNat 0).set b.toNat (gAt st a)
  | .turn k => turnTo (rs.getD k.toNat []) st (rs.getD k.toNat []).length
theorem turnTo_succ (r st : List Int) (n : Nat) : turnTo r st (n + 1) = (turnTo r st n).set (r.getD ((n + 1) % r.length) 0).toNat (gAt st (r.getD n 0)) := by
  unfold turnTo
  rw [List.range_succ, List.foldl_append]
  rfl
theorem turnTo_len (r st : List Int) : ∀ n, (turnTo r st n).length = st.length
  | 0 => rfl
  | n + 1 => by rw [turnTo_succ, List.length_set, turnTo_len r st n]
theorem stepMv_len (rs : List (List Int)) (st : List Int) (m : Mv) : (stepMv rs st m).length = st.length := by
  cases m with
  | slide a b => show ((st.set a.toNat 0).set b.toNat (gAt st a)).length = _; rw [List.length_set, List.length_set]
  | turn k => exact turnTo_len _ _ _
/-- the move can be made -/
def CanMv (n : Nat) (ts : List (Int × Int)) (rs : List (List Int)) (st : List Int) : Mv → Prop
  | .slide a b => (a, b) ∈ ts ∧ TieOk n (a, b) ∧ 0 < gAt st a ∧ gAt st b = 0
  | .turn k => 0 ≤ k ∧ k < rs.length
def spMoved (K : PySem.W.Frag) : Sp := fun vs H Q _ => ∃ (q s : Addr) (y : V) (n : Nat) (ts : List (Int × Int)) (rs : List (List Int)) (st : List Int) (m : Mv), vs = [.ref q, .ref s, y] ∧ YdAt K H q n ts rs ∧ n ≤ 100 ∧ (∀ r ∈ rs, RingOk n r) ∧ SqT K H s (st.map V.int) ∧ st.length = n ∧ MvAt K H y m ∧ CanMv n ts rs st m ∧
  ∀ t H', H' t = some (.tup ((stepMv rs st m).map V.int)) → Same H H' → Q (.ref t) H'
theorem ixN_ok {n : Nat} {i : Int} (h0 : 0 ≤ i) (h1 : i < n) : ixN n i = some i.toNat := by
  unfold ixN
  rw [if_pos h0, if_pos h1]
theorem getD_at {r : List Int} {i : Nat} (h : i < r.length) : (r.map V.int)[i]? = some (.int (r.getD i 0)) := by
  rw [List.getElem?_map, List.getElem?_eq_getElem h, List.getD_eq_getElem?_getD, List.getElem?_eq_getElem h]
  rfl
theorem getD_mem {r : List Int} {i : Nat} (h : i < r.length) : r.getD i 0 ∈ r := by
  rw [List.getD_eq_getElem?_getD, List.getElem?_eq_getElem h]
  exact List.getElem_mem h
section
variable {P : Program} {w : World} {K : PySem.W.Frag} {mg : Str → Option Value} {base : Heap} {fDraw : Addr}
theorem scMoved : FnScope ["_law_yard", "_law_stand", "_law_move", "_law_found", "_law_ring", "_law_k"] ["_law_yard", "_law_stand", "_law_move"] (defScope sMoved) := ⟨rfl, rfl, rfl, by decide +kernel, rfl, by decide +kernel, by decide +kernel⟩
theorem ok_moved {f : Addr} {fd : FuncData} (F : Fun K "_law_moved" "_law_moved" sMoved f fd) (T : TG K mg fDraw) : FnOk P w K mg base CX0 1 f fd ["_law_yard", "_law_stand", "_law_move"] (spMoved K) := by
  refine F.ok scMoved (fun vs H Q E h => ?_) (fun cdv A outer s H vs Q E hr h => ?_)
  · obtain ⟨q, s, y, n, ts, rs, st, m, rfl, _⟩ := h
    rfl
  · obtain ⟨q, s, y, n, ts, rs, st, m, rfl, ⟨a, e, tys, zs, hq, ha, pa, he, pe⟩, n100, rok, hs, hst, ⟨b, rfl, hm⟩, can, k⟩ := h
    have hu := hr.units
    have ix : ∀ i : Nat, True := fun _ => trivial
    refine ⟨_, pss_cons (ps_set (i := 3) scMoved.nd rfl (Or.inl rfl) (pe_callTy call_list_of (by rfl) T.p.list (by decide +kernel) (pa_cons (pv 1) pa_nil)))
      (pss_cons (ps_if (pt_cmpR op_eq (pe_ix ix_tup (pv 2) pe_int (fun _ _ => rfl)) pe_str (nomark _))
        (pss_cons (ps_if (PW.pt (pw_or (pt_cmpR (op_tieNotIn hu) (pe_tup (pa_cons (pe_ix ix_tup (pv 2) pe_int (fun _ _ => rfl)) (pa_cons (pe_ix ix_tup (pv 2) pe_int (fun _ _ => rfl)) pa_nil))) (pe_ix ix_tup (pv 0) pe_int (fun _ _ => rfl)) (by rfl))
            (pw_or (pt_cmpR op_eq (pe_ix ix_tup (pv 1) (pe_ix ix_tup (pv 2) pe_int (fun _ _ => rfl)) (fun _ _ => rfl)) pe_int (nomark _)) (pw_or1 (pt_cmpR op_ne (pe_ix ix_tup (pv 1) (pe_ix ix_tup (pv 2) pe_int (fun _ _ => rfl)) (fun _ _ => rfl)) pe_int (nomark _))))))
            (pss_one (ps_ret pe_non)) pss_nil)
        (pss_cons (ps_asg (pe_tup (pa_cons pe_int (pa_cons (pe_ix ix_tup (pv 1) (pe_ix ix_tup (pv 2) pe_int (fun _ _ => rfl)) (fun _ _ => rfl)) pa_nil))) (pg_tup rfl (pgs_cons (pg_sub (pv 3) (pe_ix ix_tup (pv 2) pe_int (fun _ _ => rfl)) set_list) (pgs_cons (pg_sub (pv 3) (pe_ix ix_tup (pv 2) pe_int (fun _ _ => rfl)) set_list) pgs_nil))))
        (pss_one (ps_ret (pe_callTy call_tuple_of (by rfl) T.tuple (by decide +kernel) (pa_cons (pv 3) pa_nil))))))
        pss_nil)
      (pss_cons (ps_set (i := 4) scMoved.nd rfl (Or.inl rfl) (pe_ix ix_tup (pe_ix ix_tup (pv 0) pe_int (fun _ _ => rfl)) (pe_ix ix_tup (pv 2) pe_int (fun _ _ => rfl)) (fun _ _ => rfl)))
      (pss_cons (ps_for PassesOwn.never rfl (pi_range1 (by rfl) T.range (pa_cons (pe_callB call_len_seq (by rfl) T.p.len PySem.boot_len (pa_cons (pv 4) pa_nil)) pa_nil)) (pg_name (i := 5) scMoved.nd rfl (Or.inl rfl))
        (pss_one (ps_asg (pe_ix ix_tup (pv 1) (pe_ix ix_tup (pv 4) (pv 5) (fun _ _ => rfl)) (fun _ _ => rfl))
          (pg_sub (pv 3) (pe_ix ix_tup (pv 4) (pe_op op_mod (pe_callTy call_int1 (by rfl) T.p.int (by decide +kernel) (pa_cons (pe_op op_add (pv 5) pe_int) pa_nil)) (pe_callB call_len_seq (by rfl) T.p.len PySem.boot_len (pa_cons (pv 4) pa_nil))) (fun _ _ => rfl)) set_list))))
      (pss_one (ps_ret (pe_callTy call_tuple_of (by rfl) T.tuple (by decide +kernel) (pa_cons (pv 3) pa_nil))))))), ?_⟩
    refine ⟨_, rfl, s, _, rfl, .inr hs, fun l nl => ?_⟩
    have s1 := Same.new (o := .lst (st.map V.int)) nl
    have hm1 := Same.seqT s1 hm
    have hs1 := Same.seqT s1 hs
    cases m with
    | slide x z =>
      obtain ⟨hin, ⟨x0, x1, z0, z1, _⟩, gx, gz⟩ := can
      have x1' : x < st.length := by rw [hst]; exact x1
      have z1' : z < st.length := by rw [hst]; exact z1
      refine ⟨_, rfl, b, _, 0, _, rfl, rfl, hm1, atI_nat (j := 0) rfl, rfl, _, rfl, ?_⟩
      refine iteT ?_
      refine ⟨_, rfl, b, _, 1, _, rfl, rfl, hm1, atI_nat (j := 1) rfl, _, rfl, b, _, 2, _, rfl, rfl, hm1, atI_nat (j := 2) rfl, (by show 2 ≤ sizeLine; decide), fun t nt => ?_⟩
      have s2 := s1.trans (Same.new (o := .tup [.int x, .int z]) nt)
      have hm2 := Same.seqT s2 hm
      have hs2 := Same.seqT s2 hs
      refine ⟨_, rfl, q, _, 1, _, rfl, rfl, Same.seqT s2 hq, atI_nat (j := 1) rfl, ?_⟩
      refine ⟨a, tys, ts, (x, z), rfl, Same.seqT s2 ha, ties_kp pa (.of_same s2), ⟨t, rfl, SqT.of upd_same⟩, _, rfl, ?_⟩
      refine ifT (fun h => by simp [hin] at h) (fun _ => ?_)
      refine ⟨_, rfl, _, rfl, b, _, 1, _, rfl, rfl, hm2, atI_nat (j := 1) rfl, s, _, x, _, rfl, rfl, hs2, atI_st x0 x1', rfl, _, rfl, ?_⟩
      refine ifT (fun h => by rw [dec_int] at h; have := eq_of_beq h; omega) (fun _ => ?_)
      refine ⟨_, rfl, _, rfl, b, _, 2, _, rfl, rfl, hm2, atI_nat (j := 2) rfl, s, _, z, _, rfl, rfl, hs2, atI_st z0 z1', rfl, _, rfl, ?_⟩
      refine ifT (fun h => by rw [gz] at h; simp at h) (fun _ => ?_)
      refine ⟨_, rfl, _, rfl, b, _, 1, _, rfl, rfl, hm2, atI_nat (j := 1) rfl, s, _, x, _, rfl, rfl, hs2, atI_st x0 x1', (by show 2 ≤ sizeLine; decide), fun t2 nt2 => ?_⟩
      have s3 := s2.trans (Same.new (o := .tup [.int 0, .int (gAt st x)]) nt2)
      have hm3 := Same.seqT s3 hm
      have el : (upd (upd (upd H l (.lst (st.map V.int))) t (.tup [.int x, .int z])) t2 (.tup [.int 0, .int (gAt st x)])) l = some (.lst (st.map V.int)) := Same.new nt2 _ _ (Same.new nt _ _ upd_same)
      refine ⟨t2, _, rfl, SqT.of upd_same, rfl, _, _, rfl, ?_⟩
      refine ⟨_, rfl, _, rfl, b, _, 1, _, rfl, rfl, hm3, atI_nat (j := 1) rfl, l, _, x, x.toNat, rfl, rfl, el, by rw [List.length_map]; exact ixN_ok x0 x1', ?_⟩
      rw [map_set]
      have s4 := Same.upd_new (o := .lst ((st.set x.toNat 0).map V.int)) s3 nl
      refine ⟨_, _, rfl, _, rfl, _, rfl, b, _, 2, _, rfl, rfl, Same.seqT s4 hm, atI_nat (j := 2) rfl, l, _, z, z.toNat, rfl, rfl, upd_same, by rw [List.length_map, List.length_set]; exact ixN_ok z0 z1', ?_⟩
      rw [map_set]
      have s5 := Same.upd_new (o := .lst (((st.set x.toNat 0).set z.toNat (gAt st x)).map V.int)) s4 nl
      refine ⟨rfl, ?_⟩
      exact ⟨_, rfl, l, _, rfl, .inl ⟨SqL.of upd_same, fun u nu => k u _ upd_same (s5.trans (Same.new nu))⟩⟩
    | turn kk =>
      obtain ⟨k0, k1⟩ := can
      obtain ⟨g, rr, eg, erg, hg, hlg⟩ := ring_at pe k0 k1
      obtain ⟨_, rb, r3, rn⟩ := rok rr (List.mem_of_getElem? erg)
      have hrd : rs.getD kk.toNat [] = rr := by rw [List.getD_eq_getElem?_getD, erg]; rfl
      refine ⟨_, rfl, b, _, 0, _, rfl, rfl, hm1, atI_nat (j := 0) rfl, rfl, _, rfl, ?_⟩
      refine iteF ?_
      refine ⟨_, rfl, q, _, 2, _, rfl, rfl, Same.seqT s1 hq, atI_nat (j := 2) rfl, _, rfl, b, _, 1, _, rfl, rfl, hm1, atI_nat (j := 1) rfl, e, zs, kk, _, rfl, rfl, Same.seqT s1 he, atI_int k0 eg, ?_⟩
      refine ⟨_, rfl, g, _, rfl, .inr (Same.seqT s1 hg), _, rfl, by omega, by rw [List.length_map]; omega, ?_⟩
      rw [List.length_map]
      refine for_range (lo := 0) (n := ((rr.length : Int)).toNat) (fun i σ H' => ∃ v, σ = [some (.ref q), some (.ref s), some (.ref b), some (.ref l), some (.ref g), v] ∧ H' l = some (.lst ((turnTo rr st i).map V.int)) ∧ Same H H') ⟨none, rfl, upd_same, s1⟩ ?_ ?_
      · rintro i σ H1 hi ⟨v, rfl, el, sH⟩
        have hi' : i < rr.length := by omega
        have hg1 := Same.seqT sH hg
        obtain ⟨p0, p1⟩ := rb _ (getD_mem hi')
        have hmod : (i + 1) % rr.length < rr.length := Nat.mod_lt _ (by omega)
        obtain ⟨m0, m1⟩ := rb _ (getD_mem hmod)
        refine ⟨_, rfl, _, rfl, _, rfl, g, _, 0 + (i : Int), _, rfl, rfl, hg1, (by rw [Int.zero_add]; exact atI_nat (getD_at hi')), s, _, _, _, rfl, rfl, Same.seqT sH hs, atI_st p0 (by rw [hst]; exact p1), ?_⟩
        refine ⟨_, rfl, _, rfl, _, rfl, _, _, rfl, rfl, .inl ⟨_, rfl, _, rfl, g, _, rfl, .inr hg1, _, _, rfl, rfl, by rw [List.length_map]; omega, ?_⟩⟩
        rw [List.length_map]
        have em : ((0 + (i : Int) + 1) % (rr.length : Int)) = (((i + 1) % rr.length : Nat) : Int) := by
          rw [Int.natCast_emod]
          congr 1
          omega
        refine ⟨g, _, _, _, rfl, rfl, hg1, (by rw [em]; exact atI_nat (getD_at hmod)), ?_⟩
        refine ⟨l, _, _, _, rfl, rfl, el, by rw [List.length_map, turnTo_len]; exact ixN_ok m0 (by rw [hst]; exact m1), ?_⟩
        rw [map_set]
        exact ⟨_, rfl, by rw [turnTo_succ]; exact upd_same, Same.upd_new sH nl⟩
      · rintro σ H1 ⟨v, rfl, el, sH⟩
        refine ⟨_, rfl, l, _, rfl, .inl ⟨SqL.of el, fun u nu => k u _ ?_ (sH.trans (Same.new nu))⟩⟩
        rw [upd_same]
        show some (HO.tup ((turnTo rr st ((rr.length : Int)).toNat).map V.int)) = some (.tup ((turnTo (rs.getD kk.toNat []) st (rs.getD kk.toNat []).length).map V.int))
        rw [hrd, show ((rr.length : Int)).toNat = rr.length by omega]
end
end Y
set_option Elab.async false
set_option linter.all false
set_option maxRecDepth 100000
set_option maxHeartbeats 4000000
namespace Y
open PySem L2
abbrev sSMoves : Stmt := top 999
/-! ### xs == [] -/
def rEqNil (K : PySem.W.Frag) : R2 := fun x y H Q => ∃ p q xs, x = .ref p ∧ y = .ref q ∧ SqL K H p xs ∧ SqL K H q [] ∧ Q (.bl xs.isEmpty) H
theorem op_eq_nil {X : Cx} (hu : X.A.units < cLine) : OpR X (compareOp .Eq) (rEqNil X.K) := by
  intro pins s σ H x y v u Q I rx ry h
  obtain ⟨p, q, xs, rfl, rfl, hp, hq, k⟩ := h
  cases rx
  cases ry
  obtain ⟨its, r1, l1, _⟩ := I.list hp
  obtain ⟨jts, r2, l2, _⟩ := I.list hq
  cases r2
  cases r1 with
  | nil =>
    refine SeqAt.eq_listAt (e := fun _ => true) l1.isList l2.isList rfl hu (fun j h1 _ => absurd h1 (by simp)) ?_
    exact ⟨.bl true, H, I, rfl, k⟩
  | cons a t =>
    refine SeqAt.eq_list_lengthsAt l1.isList l2.isList (by simp) hu ?_
    exact ⟨.bl false, H, I, rfl, k⟩
/-! ### a row of moves that can be made -/
def playMvs (rs : List (List Int)) : List Int → List Mv → List Int
  | st, [] => st
  | st, m :: l => playMvs rs (stepMv rs st m) l
def CanAll (n : Nat) (ts : List (Int × Int)) (rs : List (List Int)) : List Int → List Mv → Prop
  | _, [] => True
  | st, m :: l => CanMv n ts rs st m ∧ CanAll n ts rs (stepMv rs st m) l
theorem play_snoc {rs : List (List Int)} {m : Mv} : ∀ {l : List Mv} {st : List Int}, playMvs rs st (l ++ [m]) = stepMv rs (playMvs rs st l) m
  | [], _ => rfl
  | a :: l, st => play_snoc (l := l) (st := stepMv rs st a)
theorem can_snoc {n : Nat} {ts : List (Int × Int)} {rs : List (List Int)} {m : Mv} : ∀ {l : List Mv} {st : List Int}, CanAll n ts rs st l → CanMv n ts rs (playMvs rs st l) m → CanAll n ts rs st (l ++ [m])
  | [], _, _, h => ⟨h, trivial⟩
  | _ :: _, _, h, g => ⟨h.1, can_snoc h.2 g⟩
theorem play_len {rs : List (List Int)} : ∀ {l : List Mv} {st : List Int}, (playMvs rs st l).length = st.length
  | [], _ => rfl
  | m :: l, st => by show (playMvs rs (stepMv rs st m) l).length = _; rw [play_len, stepMv_len]
theorem can_of_mem {n : Nat} {ts : List (Int × Int)} {rs : List (List Int)} {st : List Int} {m : Mv} (tok : ∀ t ∈ ts, TieOk n t) (h : m ∈ movesOf ts rs st) : CanMv n ts rs st m := by
  unfold movesOf at h
  rcases List.mem_append.mp h with h | h
  · obtain ⟨t, ht, rfl⟩ := List.mem_map.mp h
    obtain ⟨h1, h2⟩ := List.mem_filter.mp ht
    unfold canSlide at h2
    rw [Bool.and_eq_true, decide_eq_true_iff, decide_eq_true_iff] at h2
    exact ⟨h1, tok t h1, h2.1, h2.2⟩
  · unfold turns at h
    obtain ⟨k, hk, rfl⟩ := List.mem_map.mp h
    rw [List.mem_range] at hk
    exact ⟨by omega, by omega⟩
def spSMoves (K : PySem.W.Frag) : Sp := fun vs H Q _ => ∃ (p c q s : Addr) (n b mo : Nat) (ts : List (Int × Int)) (rs : List (List Int)) (st : List Int), vs = [.ref p, .ref q, .ref s, .int (mo : Int)] ∧ Pen H p c (b + mo + 1) ∧ mo ≤ 100 ∧ YdAt K H q n ts rs ∧ YdOk n ts rs ∧ SqT K H s (st.map V.int) ∧ st.length = n ∧
  ∀ l ys ms H', H' l = some (.lst ys) → MvsAt K H' ys ms → ms.length ≤ mo → CanAll n ts rs st ms → Kp H H' → Pen H' p c b → Q (.ref l) H'
structure TM (K : PySem.W.Frag) (mg : Str → Option Value) (fDraw fPick fMoves fMoved : Addr) : Prop where
  g : TG K mg fDraw
  gPick : mg "_law_pick" = some (.ref fPick)
  gMoves : mg "_law_moves" = some (.ref fMoves)
  gMoved : mg "_law_moved" = some (.ref fMoved)
section
variable {P : Program} {w : World} {K : PySem.W.Frag} {mg : Str → Option Value} {base : Heap} {fDraw fPick fMoves fMoved : Addr}
end
end Y
set_option Elab.async false
set_option linter.all false
set_option maxRecDepth 100000
set_option maxHeartbeats 4000000
namespace Y
open PySem L2
abbrev sIsInt : Stmt := top 1
abbrev sIsRow : Stmt := top 3
abbrev sCan : Stmt := top 999
structure TI0 (mg : Str → Option Value) : Prop where
  isi : mg "isinstance" = none
  int : mg "int" = none
  bool : mg "bool" = none
  tuple : mg "tuple" = none
  list : mg "list" = none
def spIsInt : Sp := fun vs H Q _ => ∃ z : Int, vs = [.int z] ∧ Q (.bl true) H
def spIsRow (K : PySem.W.Frag) : Sp := fun vs H Q _ => ∃ x : V, vs = [x] ∧ (TyX K H x (.type "list") ∨ TyX K H x (.type "tuple")) ∧ ∀ H', Same H H' → Q (.bl true) H'
theorem TyX.same {K : PySem.W.Frag} {H H' : Hp} {a : Addr} {xs : List V} (h : SqL K H a xs) : TyX K H (.ref a) (.type "list") := by
  rcases h with (h | ⟨o, h⟩) | ⟨o, its, n, l, c, _⟩
  · exact .base (.lst h)
  · exact .base (.frz h)
  · exact .kList l c
section
variable {P : Program} {w : World} {K : PySem.W.Frag} {mg : Str → Option Value} {base : Heap}
theorem scIsInt : FnScope ["value"] ["value"] (defScope sIsInt) := ⟨rfl, rfl, rfl, by decide +kernel, rfl, by decide +kernel, by decide +kernel⟩
theorem ok_isInt {f : Addr} {fd : FuncData} (F : Fun K "is_integer" "is_integer" sIsInt f fd) (T : TI0 mg) : FnOk P w K mg base CX0 1 f fd ["value"] spIsInt := by
  refine F.ok scIsInt (fun vs H Q E h => ?_) (fun cdv A outer s H vs Q E hr h => ?_)
  · obtain ⟨z, rfl, _⟩ := h
    rfl
  · obtain ⟨z, rfl, k⟩ := h
    refine ⟨_, pss_one (ps_ret (pe_and (pe_callB call_isi (by rfl) T.isi (by decide +kernel) (pa_cons (pv 0) (pa_cons (pbT (n := "int") T.int (by decide +kernel)) pa_nil))) (pe_one (pe_not (pe_callB call_isi (by rfl) T.isi (by decide +kernel) (pa_cons (pv 0) (pa_cons (pbT (n := "bool") T.bool (by decide +kernel)) pa_nil))))))), ?_⟩
    refine ⟨_, rfl, _, _, _, _, true, rfl, ClsV.ty _, .base (TyOf.int z), kit_ty (by decide +kernel), true, rfl, iteT ?_⟩
    exact ⟨_, rfl, _, _, _, _, false, rfl, ClsV.ty _, .base (TyOf.int z), kit_ty (by decide +kernel), false, rfl, k⟩
theorem scIsRow : FnScope ["value"] ["value"] (defScope sIsRow) := ⟨rfl, rfl, rfl, by decide +kernel, rfl, by decide +kernel, by decide +kernel⟩
theorem kit_row {K : PySem.W.Frag} {t : String} (h : t = "list" ∨ t = "tuple") : PySem.W.kitAny K (.type t) [.type "tuple", .type "list"] = some true := by
  rcases h with rfl | rfl
  · have e1 : PySem.W.kitOne K (.type "list") (.type "tuple") = some false := kit_ty (by decide +kernel)
    have e2 : PySem.W.kitOne K (.type "list") (.type "list") = some true := kit_ty (by decide +kernel)
    simp only [PySem.W.kitAny, e1, e2]
  · have e1 : PySem.W.kitOne K (.type "tuple") (.type "tuple") = some true := kit_ty (by decide +kernel)
    simp only [PySem.W.kitAny, e1]
theorem ok_isRow {f : Addr} {fd : FuncData} (F : Fun K "is_row" "is_row" sIsRow f fd) (T : TI0 mg) : FnOk P w K mg base CX0 1 f fd ["value"] (spIsRow K) := by
  refine F.ok scIsRow (fun vs H Q E h => ?_) (fun cdv A outer s H vs Q E hr h => ?_)
  · obtain ⟨x, rfl, _⟩ := h
    rfl
  · obtain ⟨x, rfl, hx, k⟩ := h
    refine ⟨_, pss_one (ps_ret (pe_callB call_isiT (by rfl) T.isi (by decide +kernel) (pa_cons (pv 0) (pa_cons (pe_tup (pa_cons (pbT (n := "tuple") T.tuple (by decide +kernel)) (pa_cons (pbT (n := "list") T.list (by decide +kernel)) pa_nil))) pa_nil)))), ?_⟩
    refine ⟨_, rfl, (by show 2 ≤ sizeLine; decide), fun t nt => ?_⟩
    have mono : ∀ {ty : Value}, TyX K H x ty → (ty = .type "list" ∨ ty = .type "tuple") → TyX K (upd H t (.tup [.ty "tuple", .ty "list"])) x ty := fun {ty} h _ => by
      cases h with
      | base b =>
        cases b with
        | non => exact .base .non
        | bl b => exact .base (.bl b)
        | int i => exact .base (.int i)
        | str z => exact .base (.str z)
        | flt z => exact .base (.flt z)
        | lst e => exact .base (.lst (Same.new nt _ _ e))
        | frz e => exact .base (.frz (Same.new nt _ _ e))
        | tup e => exact .base (.tup (Same.new nt _ _ e))
        | dK e => exact .base (.dK (Same.new nt _ _ e))
        | dT e => exact .base (.dT (Same.new nt _ _ e))
        | ins e c1 c2 c3 c4 c5 => exact .base (.ins (Same.new nt _ _ e) c1 c2 c3 c4 c5)
      | byt b => exact .byt b
      | set e => exact .set (Same.new nt _ _ e)
      | kList e c => exact .kList e c
      | kTuple e c => exact .kTuple e c
      | kDict e c => exact .kDict e c
      | fTuple e => exact .fTuple (Same.new nt _ _ e)
      | fDict e => exact .fDict (Same.new nt _ _ e)
    rcases hx with hx | hx
    · exact ⟨x, t, _, _, _, true, rfl, upd_same, .cons (ClsV.ty _) (.cons (ClsV.ty _) .nil), mono hx (.inl rfl), kit_row (.inl rfl), k _ (Same.new nt)⟩
    · exact ⟨x, t, _, _, _, true, rfl, upd_same, .cons (ClsV.ty _) (.cons (ClsV.ty _) .nil), mono hx (.inr rfl), kit_row (.inr rfl), k _ (Same.new nt)⟩
end
end Y
set_option Elab.async false
set_option linter.all false
set_option maxRecDepth 100000
set_option maxHeartbeats 4000000
namespace Y
open PySem L2
abbrev sIsCount : Stmt := top 2
/-- the type's name of a data -/
def tyNm : PyData → String
  | .none => "NoneType"
  | .bool _ => "bool"
  | .int _ => "int"
  | .str _ => "str"
  | .list _ => "list"
  | .tuple _ => "tuple"
  | .dict _ => "dict"
theorem dq_ty {K : PySem.W.Frag} {H : Hp} {d : PyData} {x : V} (h : Dq K H d x) : TyX K H x (.type (tyNm d)) := by
  cases h with
  | non => exact .base .non
  | bl b => exact .base (.bl b)
  | int i => exact .base (.int i)
  | str x => exact .base (.str x)
  | lst h _ => exact TyX.same (H' := H) h
  | tup h _ => exact ty_tup h
  | dct e => exact .base (.dK e)
def isI : PyData → Bool
  | .int _ => true
  | _ => false
def isCnt : PyData → Bool
  | .int z => decide (0 ≤ z)
  | _ => false
def spIsIntD (K : PySem.W.Frag) : Sp := fun vs H Q _ => ∃ (x : V) (d : PyData), vs = [x] ∧ Dq K H d x ∧ Q (.bl (isI d)) H
def spIsCountD (K : PySem.W.Frag) : Sp := fun vs H Q _ => ∃ (x : V) (d : PyData), vs = [x] ∧ Dq K H d x ∧ Q (.bl (isCnt d)) H
section
variable {P : Program} {w : World} {K : PySem.W.Frag} {mg : Str → Option Value} {base : Heap} {fInt : Addr}
theorem ok_isIntD {f : Addr} {fd : FuncData} (F : Fun K "is_integer" "is_integer" sIsInt f fd) (T : TI0 mg) : FnOk P w K mg base CX0 1 f fd ["value"] (spIsIntD K) := by
  refine F.ok scIsInt (fun vs H Q E h => ?_) (fun cdv A outer s H vs Q E hr h => ?_)
  · obtain ⟨z, d, rfl, _⟩ := h
    rfl
  · obtain ⟨x, d, rfl, hd, k⟩ := h
    refine ⟨_, pss_one (ps_ret (pe_and (pe_callB call_isi (by rfl) T.isi (by decide +kernel) (pa_cons (pv 0) (pa_cons (pbT (n := "int") T.int (by decide +kernel)) pa_nil))) (pe_one (pe_not (pe_callB call_isi (by rfl) T.isi (by decide +kernel) (pa_cons (pv 0) (pa_cons (pbT (n := "bool") T.bool (by decide +kernel)) pa_nil))))))), ?_⟩
    have ty := dq_ty hd
    cases d with
    | int z =>
      refine ⟨_, rfl, _, _, _, _, true, rfl, ClsV.ty _, ty, kit_ty (by show kitB _ _ = _; dsimp only [tyNm]; decide +kernel), true, rfl, iteT ?_⟩
      exact ⟨_, rfl, _, _, _, _, false, rfl, ClsV.ty _, ty, kit_ty (by show kitB _ _ = _; dsimp only [tyNm]; decide +kernel), false, rfl, k⟩
    | bool b =>
      refine ⟨_, rfl, _, _, _, _, true, rfl, ClsV.ty _, ty, kit_ty (by show kitB _ _ = _; dsimp only [tyNm]; decide +kernel), true, rfl, iteT ?_⟩
      exact ⟨_, rfl, _, _, _, _, true, rfl, ClsV.ty _, ty, kit_ty (by show kitB _ _ = _; dsimp only [tyNm]; decide +kernel), true, rfl, k⟩
    | none => exact ⟨_, rfl, _, _, _, _, false, rfl, ClsV.ty _, ty, kit_ty (by show kitB _ _ = _; dsimp only [tyNm]; decide +kernel), false, rfl, iteF k⟩
    | str _ => exact ⟨_, rfl, _, _, _, _, false, rfl, ClsV.ty _, ty, kit_ty (by show kitB _ _ = _; dsimp only [tyNm]; decide +kernel), false, rfl, iteF k⟩
    | list _ => exact ⟨_, rfl, _, _, _, _, false, rfl, ClsV.ty _, ty, kit_ty (by show kitB _ _ = _; dsimp only [tyNm]; decide +kernel), false, rfl, iteF k⟩
    | tuple _ => exact ⟨_, rfl, _, _, _, _, false, rfl, ClsV.ty _, ty, kit_ty (by show kitB _ _ = _; dsimp only [tyNm]; decide +kernel), false, rfl, iteF k⟩
    | dict _ => exact ⟨_, rfl, _, _, _, _, false, rfl, ClsV.ty _, ty, kit_ty (by show kitB _ _ = _; dsimp only [tyNm]; decide +kernel), false, rfl, iteF k⟩
theorem scIsCount : FnScope ["value"] ["value"] (defScope sIsCount) := ⟨rfl, rfl, rfl, by decide +kernel, rfl, by decide +kernel, by decide +kernel⟩
theorem ok_isCountD {f : Addr} {fd fdI : FuncData} (F : Fun K "is_count" "is_count" sIsCount f fd) (T : TI0 mg) (gI : mg "is_integer" = some (.ref fInt)) (FI : Fun K "is_integer" "is_integer" sIsInt fInt fdI) (bI : Binds K fdI ["value"] []) :
    FnOk P w K mg base CX0 2 f fd ["value"] (spIsCountD K) := by
  have GI : FnOk P w K mg base CX0 1 fInt fdI ["value"] (spIsIntD K) := ok_isIntD FI T
  refine F.ok scIsCount (fun vs H Q E h => ?_) (fun cdv A outer s H vs Q E hr h => ?_)
  · obtain ⟨z, d, rfl, _⟩ := h
    rfl
  · obtain ⟨x, d, rfl, hd, k⟩ := h
    refine ⟨_, pss_one (ps_ret (pe_and (pe_call GI hr (by rfl) gI FI.kp bI .nil pass0 (pa_cons (pv 0) pa_nil)) (pe_one (pe_cmpR op_ge (pv 0) pe_int (nomark _))))), ?_⟩
    refine ⟨_, rfl, x, d, rfl, hd, isI d, rfl, ?_⟩
    cases hd with
    | int z => exact iteT ⟨_, rfl, _, _, rfl, rfl, k⟩
    | _ => exact iteF k
end
end Y
set_option Elab.async false
set_option linter.all false
set_option maxRecDepth 100000
set_option maxHeartbeats 4000000
namespace Y
open PySem L2
abbrev sUnlike : Stmt := top 4
abbrev sCTies : Stmt := top 15
abbrev sCRings : Stmt := top 16
abbrev sYInit : Stmt := inClass (top 14) 0
/-! ### unlike places -/
def spUnlike (K : PySem.W.Frag) : Sp := fun vs H Q _ => ∃ (n : Nat) (y : V) (r : List Int), vs = [.int (n : Int), y] ∧ RowAt K H y r ∧ (∀ z ∈ r, 0 ≤ z ∧ z < n) ∧ r.Nodup ∧ r.length < 64 ∧ ∀ H', Same H H' → Q (.bl true) H'
structure TUn (K : PySem.W.Frag) (mg : Str → Option Value) (fInt fRow fUn fCnt : Addr) : Prop where
  i : TI0 mg
  len : mg "len" = none
  all : mg "all" = none
  set : mg "set" = none
  sorted : mg "sorted" = none
  enum : mg "enumerate" = none
  gInt : mg "is_integer" = some (.ref fInt)
  gRow : mg "is_row" = some (.ref fRow)
  gUn : mg "are_unlike_numbers" = some (.ref fUn)
  gCnt : mg "is_count" = some (.ref fCnt)
section
variable {P : Program} {w : World} {K : PySem.W.Frag} {mg : Str → Option Value} {base : Heap} {fInt fRow fUn fCnt : Addr}
theorem scUnlike : FnScope ["many", "value", "number"] ["many", "value"] (defScope sUnlike) := ⟨rfl, rfl, rfl, by decide +kernel, rfl, by decide +kernel, by decide +kernel⟩
theorem ok_unlike {f : Addr} {fd fdI fdR fdC : FuncData} (F : Fun K "are_unlike_numbers" "are_unlike_numbers" sUnlike f fd) (T : TUn K mg fInt fRow fUn fCnt) (FI : Fun K "is_integer" "is_integer" sIsInt fInt fdI) (bI : Binds K fdI ["value"] []) (FR : Fun K "is_row" "is_row" sIsRow fRow fdR) (bR : Binds K fdR ["value"] [])
    (FC : Fun K "is_count" "is_count" sIsCount fCnt fdC) (bC : Binds K fdC ["value"] []) : FnOk P w K mg base CX0 3 f fd ["many", "value"] (spUnlike K) := by
  have GC : FnOk P w K mg base CX0 2 fCnt fdC ["value"] (spIsCountD K) := ok_isCountD FC T.i T.gInt FI bI
  have GR : FnOk P w K mg base CX0 2 fRow fdR ["value"] (spIsRow K) := (ok_isRow FR T.i).mono (by decide)
  refine F.ok scUnlike (fun vs H Q E h => ?_) (fun cdv A outer s H vs Q E hr h => ?_)
  · obtain ⟨n, y, r, rfl, _⟩ := h
    rfl
  · obtain ⟨n, y, r, rfl, ⟨b, rfl, hb⟩, rb, rn, r64, k⟩ := h
    refine ⟨_, pss_cons (ps_if (PW.pt (pw_or (pt_not (pt_val (pe_call GR hr (by rfl) T.gRow FR.kp bR .nil pass0 (pa_cons (pv 1) pa_nil)))) (pw_or1 (pt_not (pt_val (pe_callB (cr_all rfl) (by rfl) T.all (by decide +kernel) (pa_cons (pe_lc (own := [("number", 2)]) (g := gName 2) (tt := tYes) rfl scUnlike.nd (pi_seqV (pv 1)) (blkOk_by (N := ["many", "value", "number"]) (sc := defScope sUnlike) (by decide +kernel))
          (fun _ _ _ _ _ => pg_name (i := 2) scUnlike.nd rfl (Or.inl rfl)) (fun _ _ _ _ _ => pts_nil) (fun _ _ _ _ _ => pe_and (pe_call GC hr (by rfl) T.gCnt FC.kp bC .nil pass0 (pa_cons (pv 2) pa_nil)) (pe_one (pe_cmpR op_lt (pv 2) (pv 0) (nomark _))))) pa_nil)))))) ) (pss_one (ps_ret pe_bl)) pss_nil)
      (pss_one (ps_ret (pe_cmpR op_eq (pe_lenSet2 rfl (by rfl) T.len (by rfl) T.set (pv 1)) (pe_callB call_len_seq (by rfl) T.len PySem.boot_len (pa_cons (pv 1) pa_nil)) (nomark _)))), ?_⟩
    refine ⟨_, rfl, _, rfl, hb.imp (TyX.same (H' := H)) ty_tup, fun H1 s1 => ⟨_, rfl, iteF ?_⟩⟩
    refine ⟨b, r.map V.int, H, rfl, hb, .of_same s1, fun J G w1 hG D hD => ?_⟩
    refine lcp_it (f := fun _ => V.bl true) (H1 := H1) w1 hD (by rw [List.length_map]; omega) (fun H' s' => hG H' ((Kp.of_same s1).trans s')) (fun i x0 H2 R hx s2 hR => ?_) ?_
    · obtain ⟨z, ez, rfl⟩ := ints_at hx
      obtain ⟨z0, z1⟩ := rb z (List.mem_of_getElem? ez)
      refine ⟨rfl, _, rfl, _, _, rfl, Dq.int z, true, by show V.bl (decide (0 ≤ z)) = _; rw [decide_eq_true z0], iteT ?_⟩
      refine ⟨_, rfl, _, rfl, _, _, rfl, rfl, ?_⟩
      show R (V.bl (decide (z < (n : Int)))) H2
      rw [decide_eq_true z1]
      exact hR
    · have s2 := s1.trans (Same.new (o := .lst ((r.map V.int).map fun _ => V.bl true)) hD)
      refine ⟨D, r.map fun _ => true, rfl, ?_, ?_⟩
      · rw [List.map_map, List.map_map] at *
        exact SqL.of upd_same
      have allT : (r.map fun _ => true).all id = true := by
        rw [List.all_map, List.all_eq_true]
        intro x _
        rfl
      rw [allT]
      refine ⟨_, rfl, iteF ?_⟩
      refine ⟨_, rfl, b, r, rfl, Same.seqA s2 hb, r64, rn, _, rfl, b, _, rfl, Same.seqA s2 hb, rfl, ?_⟩
      rw [List.length_map, decide_eq_true rfl]
      exact k _ s2
end
end Y
set_option Elab.async false
set_option linter.all false
set_option maxRecDepth 100000
set_option maxHeartbeats 4000000
namespace Y
open PySem L2
/-! ### the law's stirred stand -/
abbrev sStir : Stmt := top 44
abbrev NStir : List Str := ["_law_pen_here", "_law_stand", "_law_found", "_law_lap", "_law_one", "_law_other"]
def spStir (K : PySem.W.Frag) : Sp := fun vs H Q _ => ∃ (p c s : Addr) (st : List Int) (b : Nat), vs = [.ref p, .ref s] ∧ Pen H p c (b + 10) ∧ SqT K H s (st.map V.int) ∧ 1 ≤ st.length ∧ st.length ≤ 60 ∧
  ∀ t (st' : List Int) H', H' t = some (.tup (st'.map V.int)) → st'.length = st.length → (∀ z ∈ st', z ∈ st) → Kp H H' → Pen H' p c b → Q (.ref t) H'
section
variable {P : Program} {w : World} {K : PySem.W.Frag} {mg : Str → Option Value} {base : Heap} {fDraw : Addr}
theorem scStir : FnScope NStir ["_law_pen_here", "_law_stand"] (defScope sStir) := ⟨rfl, rfl, rfl, by decide +kernel, rfl, by decide +kernel, by decide +kernel⟩
theorem gAt_in {st : List Int} {i : Int} (h0 : 0 ≤ i) (h1 : i < st.length) : gAt st i ∈ st := by
  unfold gAt
  exact getD_mem (by omega)
theorem ok_stir {f : Addr} {fd fdD : FuncData} (F : Fun K "_law_stirred" "_law_stirred" sStir f fd) (T : TG K mg fDraw) (FD : Fun K "_law_draw" "_law_draw" sDraw fDraw fdD) (bD : Binds K fdD ["_law_pen_here", "_law_many"] []) :
    FnOk P w K mg base CX0 2 f fd ["_law_pen_here", "_law_stand"] (spStir K) := by
  have GD : FnOk P w K mg base CX0 1 fDraw fdD ["_law_pen_here", "_law_many"] spDraw := ok_draw FD T.p
  refine F.ok scStir (fun vs H Q E h => ?_) (fun cdv A outer s H vs Q E hr h => ?_)
  · obtain ⟨p, c, s, st, b, rfl, _⟩ := h
    rfl
  · obtain ⟨p, c, s, st, b, rfl, hP, hs, l1, l60, k⟩ := h
    refine ⟨_, pss_cons (ps_set (i := 2) scStir.nd rfl (Or.inl rfl) (pe_callTy call_list_of (by rfl) T.p.list (by decide +kernel) (pa_cons (pv 1) pa_nil)))
      (pss_cons (ps_for PassesOwn.never rfl (pi_range1 (by rfl) T.range (pa_cons (pe_call GD hr (by rfl) T.p.gDraw FD.kp bD .nil pass0 (pa_cons (pv 0) (pa_cons pe_int pa_nil))) pa_nil)) (pg_name (i := 3) scStir.nd rfl (Or.inl rfl))
        (pss_cons (ps_par (i := 4) (j := 5) rfl scStir.nd rfl rfl (by decide) rfl rfl
            (pa_cons (pe_call GD hr (by rfl) T.p.gDraw FD.kp bD .nil pass0 (pa_cons (pv 0) (pa_cons (pe_callB call_len_seq (by rfl) T.p.len PySem.boot_len (pa_cons (pv 2) pa_nil)) pa_nil)))
            (pa_cons (pe_call GD hr (by rfl) T.p.gDraw FD.kp bD .nil pass0 (pa_cons (pv 0) (pa_cons (pe_callB call_len_seq (by rfl) T.p.len PySem.boot_len (pa_cons (pv 2) pa_nil)) pa_nil))) pa_nil)) (by rfl))
        (pss_one (ps_asg (pe_tup (pa_cons (pe_ix ix_list (pv 2) (pv 5) (fun _ _ => rfl)) (pa_cons (pe_ix ix_list (pv 2) (pv 4) (fun _ _ => rfl)) pa_nil))) (pg_tup rfl (pgs_cons (pg_sub (pv 2) (pv 4) set_list) (pgs_cons (pg_sub (pv 2) (pv 5) set_list) pgs_nil)))))))
      (pss_one (ps_ret (pe_callTy call_tuple_of (by rfl) T.tuple (by decide +kernel) (pa_cons (pv 2) pa_nil))))), ?_⟩
    obtain ⟨kvs, hk⟩ := hP.there
    refine ⟨_, rfl, s, _, rfl, .inr hs, fun l nl => ?_⟩
    refine gset_go (σ' := [some (.ref p), some (.ref s), some (.ref l), none, none, none]) rfl ?_
    dsimp only
    have s1 := Same.new (o := .lst (st.map V.int)) nl
    have e1 : (upd H l (.lst (st.map V.int))) l = some (.lst (st.map V.int)) := upd_same
    have P1 := hP.same s1
    have off := hP.off nl
    generalize upd H l (.lst (st.map V.int)) = H1 at s1 e1 P1 ⊢
    obtain ⟨kv1, hk1⟩ := P1.there
    refine ⟨_, rfl, p, c, 4, b + 9, rfl, P1.less (by omega), by decide, by decide, fun n H2 n0 n4 P2 B2 => ?_⟩
    refine ⟨n, rfl, by omega, by omega, ?_⟩
    have e2 := B2.keep hk1 e1 (by intro z; cases z)
    have kp2 : Kp H H2 := (Kp.of_same s1).trans (.of_but B2 hk1)
    refine for_range (lo := 0) (n := n.toNat) (fun i σ H' => ∃ (v3 v4 v5 : Option V) (L : List Int), σ = [some (.ref p), some (.ref s), some (.ref l), v3, v4, v5] ∧ H' l = some (.lst (L.map V.int)) ∧ L.length = st.length ∧ (∀ z ∈ L, z ∈ st) ∧ Kp H H' ∧ Pen H' p c (b + 2 * (4 - i)))
      ⟨none, none, none, st, rfl, e2, rfl, fun z h => h, kp2, P2.less (by omega)⟩ ?_ ?_
    · rintro i σ H3 hi ⟨v3, v4, v5, L, rfl, eL, lL, hL, kp3, P3⟩
      have hi' : i < 4 := by omega
      refine gset_go (σ' := [some (.ref p), some (.ref s), some (.ref l), some (.int (0 + (i : Int))), v4, v5]) rfl ?_
      obtain ⟨kv3, hk3⟩ := P3.there
      refine ⟨_, rfl, _, rfl, l, _, rfl, .inl (SqL.of eL), p, c, _, b + 2 * (3 - i) + 1, rfl, P3.less (by omega), by rw [List.length_map]; omega, by rw [List.length_map]; omega, fun a H4 a0 a1 P4 B4 => ?_⟩
      have eL4 := B4.keep hk3 eL (by intro z; cases z)
      have kp4 := kp3.trans (.of_but B4 hk3)
      obtain ⟨kv4, hk4⟩ := P4.there
      refine ⟨_, rfl, _, rfl, l, _, rfl, .inl (SqL.of eL4), p, c, _, b + 2 * (3 - i), rfl, P4, by rw [List.length_map]; omega, by rw [List.length_map]; omega, fun d H5 d0 d1 P5 B5 => ?_⟩
      have eL5 := B5.keep hk4 eL4 (by intro z; cases z)
      have kp5 := kp4.trans (.of_but B5 hk4)
      rw [List.length_map] at a1 d1
      refine ⟨_, _, rfl, ?_⟩
      refine sq_st (σ' := [some (.ref p), some (.ref s), some (.ref l), some (.int (0 + (i : Int))), some (.int a), some (.int d)]) rfl ?_
      refine ⟨_, rfl, _, rfl, l, _, d, _, rfl, rfl, SqL.of eL5, atI_st d0 d1, _, rfl, _, rfl, l, _, a, _, rfl, rfl, SqL.of eL5, atI_st a0 a1, (by show 2 ≤ sizeLine; decide), fun t nt => ?_⟩
      have s6 := Same.new (o := .tup [.int (gAt L d), .int (gAt L a)]) nt
      refine ⟨t, _, rfl, SqT.of upd_same, rfl, _, _, rfl, ?_⟩
      have eL6 := s6 _ _ eL5
      have P6 := P5.same s6
      have kp6 := kp5.trans (.of_same s6)
      generalize upd H5 t (.tup [.int (gAt L d), .int (gAt L a)]) = H6 at s6 eL6 P6 kp6 ⊢
      refine ⟨_, rfl, _, rfl, l, _, a, a.toNat, rfl, rfl, eL6, by rw [List.length_map]; exact ixN_ok a0 a1, ?_⟩
      rw [map_set]
      refine ⟨_, _, rfl, _, rfl, _, rfl, l, _, d, d.toNat, rfl, rfl, upd_same, by rw [List.length_map, List.length_set]; exact ixN_ok d0 d1, ?_⟩
      rw [map_set]
      refine ⟨rfl, _, _, _, _, rfl, upd_same, by rw [List.length_set, List.length_set]; exact lL, fun z hz => ?_, (kp6.upd nl).upd nl, ?_⟩
      · rcases List.mem_or_eq_of_mem_set hz with hz | rfl
        · rcases List.mem_or_eq_of_mem_set hz with hz | rfl
          · exact hL z hz
          · exact hL _ (gAt_in d0 d1)
        · exact hL _ (gAt_in a0 a1)
      · have := (P6.upd (o := .lst ((L.set a.toNat (gAt L d)).map V.int)) off.1 off.2).upd (o := .lst (((L.set a.toNat (gAt L d)).set d.toNat (gAt L a)).map V.int)) off.1 off.2
        exact this.less (by omega)
    · rintro σ H3 ⟨v3, v4, v5, L, rfl, eL, lL, hL, kp3, P3⟩
      refine ⟨_, rfl, l, _, rfl, .inl ⟨SqL.of eL, fun t nt => ?_⟩⟩
      have s4 := Same.new (o := .tup (L.map V.int)) nt
      exact k t L _ upd_same lL hL (kp3.trans (.of_same s4)) ((P3.same s4).less (by omega))
end
end Y
set_option linter.all false
set_option maxRecDepth 100000
set_option maxHeartbeats 1000000
namespace Y
open PySem L2
/-! ### the mathematics of turns -/
/-- the place of the ring's i-th, as an index -/
def pl (r : List Int) (i : Nat) : Nat := (r.getD i 0).toNat
theorem pl_inj {n : Nat} {r : List Int} (ok : RingOk n r) {i j : Nat} (hi : i < r.length) (hj : j < r.length) (h : pl r i = pl r j) : i = j := by
  obtain ⟨nd, rb, _, _⟩ := ok
  have h1 := rb _ (getD_mem hi)
  have h2 := rb _ (getD_mem hj)
  have e : r.getD i 0 = r.getD j 0 := by unfold pl at h; omega
  rw [List.getD_eq_getElem?_getD, List.getD_eq_getElem?_getD, List.getElem?_eq_getElem hi, List.getElem?_eq_getElem hj] at e
  have e' : r[i] = r[j] := e
  exact (List.getElem_inj nd).mp e'
theorem pl_lt {n : Nat} {r : List Int} (ok : RingOk n r) {i : Nat} (hi : i < r.length) : pl r i < n := by
  have h1 := ok.2.1 _ (getD_mem hi)
  unfold pl
  omega
theorem getD_set_eq {l : List Int} {i : Nat} {v : Int} (h : i < l.length) : (l.set i v).getD i 0 = v := by
  rw [List.getD_eq_getElem?_getD, List.getElem?_set_self h]
  rfl
theorem getD_set_ne {l : List Int} {i j : Nat} {v : Int} (h : i ≠ j) : (l.set i v).getD j 0 = l.getD j 0 := by
  rw [List.getD_eq_getElem?_getD, List.getD_eq_getElem?_getD, List.getElem?_set_ne h]
theorem mod_ne {n i j : Nat} (hi : i < n) (hj : j < n) (h : i ≠ j) : (i + 1) % n ≠ (j + 1) % n := by
  have e : ∀ k, k < n → (k + 1) % n = if k + 1 = n then 0 else k + 1 := fun k hk => by
    by_cases c : k + 1 = n
    · rw [if_pos c, c, Nat.mod_self]
    · rw [if_neg c, Nat.mod_eq_of_lt (by omega)]
  rw [e i hi, e j hj]
  split <;> split <;> omega
theorem turnTo_at {n : Nat} {r st : List Int} (ok : RingOk n r) (hs : st.length = n) : ∀ m, m ≤ r.length → (∀ j, j < m → (turnTo r st m).getD (pl r ((j + 1) % r.length)) 0 = st.getD (pl r j) 0) ∧
    (∀ p, (∀ j, j < m → pl r ((j + 1) % r.length) ≠ p) → (turnTo r st m).getD p 0 = st.getD p 0)
  | 0, _ => ⟨fun j h => absurd h (Nat.not_lt_zero _), fun p _ => rfl⟩
  | m + 1, hm => by
    obtain ⟨h1, h2⟩ := turnTo_at ok hs m (by omega)
    have hpos : 0 < r.length := by omega
    have hmod : ∀ j, (j + 1) % r.length < r.length := fun j => Nat.mod_lt _ hpos
    have e : turnTo r st (m + 1) = (turnTo r st m).set (pl r ((m + 1) % r.length)) (st.getD (pl r m) 0) := turnTo_succ r st m
    rw [e]
    refine ⟨fun j hj => ?_, fun p hp => ?_⟩
    · by_cases c : j = m
      · subst c
        exact getD_set_eq (by rw [turnTo_len, hs]; exact pl_lt ok (hmod j))
      · rw [getD_set_ne (fun z => mod_ne (by omega) (by omega) (Ne.symm c) (pl_inj ok (hmod m) (hmod j) z))]
        exact h1 j (by omega)
    · rw [getD_set_ne (hp m (by omega))]
      exact h2 p fun j hj => hp j (by omega)
/-- one turn: at the ring's i-th stands what stood at the one ahead of it -/
def turn1 (r st : List Int) : List Int := turnTo r st r.length
theorem turn1_len {r st : List Int} : (turn1 r st).length = st.length := turnTo_len _ _ _
theorem turn1_ring {n : Nat} {r st : List Int} (ok : RingOk n r) (hs : st.length = n) {i : Nat} (hi : i < r.length) : (turn1 r st).getD (pl r i) 0 = st.getD (pl r ((i + (r.length - 1)) % r.length)) 0 := by
  have h3 := ok.2.2.1
  by_cases c : i = 0
  · subst c
    have := (turnTo_at ok hs r.length (Nat.le_refl _)).1 (r.length - 1) (by omega)
    rw [show r.length - 1 + 1 = r.length by omega, Nat.mod_self] at this
    rw [Nat.zero_add, Nat.mod_eq_of_lt (by omega)]
    exact this
  · have := (turnTo_at ok hs r.length (Nat.le_refl _)).1 (i - 1) (by omega)
    rw [show i - 1 + 1 = i by omega, Nat.mod_eq_of_lt hi] at this
    have e : (i + (r.length - 1)) % r.length = i - 1 := by
      rw [show i + (r.length - 1) = (i - 1) + r.length by omega, Nat.add_mod_right, Nat.mod_eq_of_lt (by omega)]
    rw [e]
    exact this
theorem turn1_off {n : Nat} {r st : List Int} (ok : RingOk n r) (hs : st.length = n) {p : Nat} (hp : ∀ i, i < r.length → pl r i ≠ p) : (turn1 r st).getD p 0 = st.getD p 0 :=
  (turnTo_at ok hs r.length (Nat.le_refl _)).2 p fun j hj => hp _ (Nat.mod_lt _ (by have := ok.2.2.1; omega))
def turnN (r : List Int) : Nat → List Int → List Int
  | 0, st => st
  | m + 1, st => turnN r m (turn1 r st)
theorem turnN_len {r : List Int} : ∀ {m : Nat} {st : List Int}, (turnN r m st).length = st.length
  | 0, _ => rfl
  | m + 1, st => by show (turnN r m (turn1 r st)).length = _; rw [turnN_len, turn1_len]
theorem turnN_ring {n : Nat} {r : List Int} (ok : RingOk n r) : ∀ {m : Nat} {st : List Int}, st.length = n → ∀ {i : Nat}, i < r.length → (turnN r m st).getD (pl r i) 0 = st.getD (pl r ((i + m * (r.length - 1)) % r.length)) 0
  | 0, st, _, i, hi => by rw [Nat.zero_mul, Nat.add_zero, Nat.mod_eq_of_lt hi]; rfl
  | m + 1, st, hs, i, hi => by
    have hpos : 0 < r.length := by omega
    show (turnN r m (turn1 r st)).getD (pl r i) 0 = _
    rw [turnN_ring ok (by rw [turn1_len, hs]) hi, turn1_ring ok hs (Nat.mod_lt _ hpos), Nat.mod_add_mod]
    congr 3
    rw [Nat.succ_mul]
    omega
theorem turnN_off {n : Nat} {r : List Int} (ok : RingOk n r) : ∀ {m : Nat} {st : List Int}, st.length = n → ∀ {p : Nat}, (∀ i, i < r.length → pl r i ≠ p) → (turnN r m st).getD p 0 = st.getD p 0
  | 0, _, _, _, _ => rfl
  | m + 1, st, hs, p, hp => by
    show (turnN r m (turn1 r st)).getD p 0 = _
    rw [turnN_off ok (by rw [turn1_len, hs]) hp, turn1_off ok hs hp]
/-- turned as often as the ring is long, all stands as it stood -/
theorem turnN_all {n : Nat} {r st : List Int} (ok : RingOk n r) (hs : st.length = n) : turnN r r.length st = st := by
  refine List.ext_getElem? fun p => ?_
  by_cases hp : p < st.length
  · have hp' : p < (turnN r r.length st).length := by rw [turnN_len]; exact hp
    have g : (turnN r r.length st).getD p 0 = st.getD p 0 := by
      by_cases c : ∃ i, i < r.length ∧ pl r i = p
      · obtain ⟨i, hi, rfl⟩ := c
        rw [turnN_ring ok hs hi, Nat.add_mul_mod_self_left, Nat.mod_eq_of_lt hi]
      · exact turnN_off ok hs fun i hi z => c ⟨i, hi, z⟩
    rw [List.getD_eq_getElem?_getD, List.getD_eq_getElem?_getD, List.getElem?_eq_getElem hp', List.getElem?_eq_getElem hp] at g
    rw [List.getElem?_eq_getElem hp', List.getElem?_eq_getElem hp]
    exact congrArg some g
  · rw [List.getElem?_eq_none (by rw [turnN_len]; omega), List.getElem?_eq_none (by omega)]
end Y
set_option linter.all false
set_option maxRecDepth 100000
set_option maxHeartbeats 1000000
namespace Y
open PySem L2
/-! ### what is taken back stands as it stood -/
theorem play_app {rs : List (List Int)} : ∀ {l l2 : List Mv} {st : List Int}, playMvs rs st (l ++ l2) = playMvs rs (playMvs rs st l) l2
  | [], _, _ => rfl
  | a :: l, l2, st => play_app (l := l) (l2 := l2) (st := stepMv rs st a)
theorem can_app {n : Nat} {ts : List (Int × Int)} {rs : List (List Int)} : ∀ {l l2 : List Mv} {st : List Int}, CanAll n ts rs st l → CanAll n ts rs (playMvs rs st l) l2 → CanAll n ts rs st (l ++ l2)
  | [], _, _, _, h => h
  | a :: l, l2, st, h, g => ⟨h.1, can_app (l := l) h.2 g⟩
theorem can_split {n : Nat} {ts : List (Int × Int)} {rs : List (List Int)} {m : Mv} : ∀ {l : List Mv} {st : List Int}, CanAll n ts rs st (l ++ [m]) → CanAll n ts rs st l ∧ CanMv n ts rs (playMvs rs st l) m
  | [], st, h => ⟨trivial, h.1⟩
  | a :: l, st, h => ⟨⟨h.1, (can_split (l := l) h.2).1⟩, (can_split (l := l) h.2).2⟩
theorem play_turns {rs : List (List Int)} {k : Int} : ∀ {m : Nat} {st : List Int}, playMvs rs st (List.replicate m (.turn k)) = turnN (rs.getD k.toNat []) m st
  | 0, _ => rfl
  | m + 1, st => play_turns (m := m) (st := stepMv rs st (.turn k))
theorem can_turns {n : Nat} {ts : List (Int × Int)} {rs : List (List Int)} {k : Int} (h : 0 ≤ k ∧ k < rs.length) : ∀ {m : Nat} {st : List Int}, CanAll n ts rs st (List.replicate m (.turn k))
  | 0, _ => trivial
  | m + 1, _ => ⟨h, can_turns h⟩
theorem back_one {n : Nat} {ts : List (Int × Int)} {rs : List (List Int)} {st : List Int} {m : Mv} {x : List Mv} (tok : ∀ t ∈ ts, TieOk n t) (rok : ∀ r ∈ rs, RingOk n r) (hs : st.length = n) (c : CanMv n ts rs st m) (h : backOne ts rs m = some x) :
    CanAll n ts rs (stepMv rs st m) x ∧ playMvs rs (stepMv rs st m) x = st := by
  cases m with
  | turn k =>
    obtain ⟨k0, k1⟩ := c
    have hk : k.toNat < rs.length := by omega
    have e : rs.getD k.toNat [] = rs[k.toNat] := by rw [List.getD_eq_getElem?_getD, List.getElem?_eq_getElem hk]; rfl
    have ok : RingOk n (rs.getD k.toNat []) := by rw [e]; exact rok _ (List.getElem_mem hk)
    cases Option.some.inj h
    refine ⟨can_turns ⟨k0, k1⟩, ?_⟩
    rw [play_turns]
    have h3 := ok.2.2.1
    have all := turnN_all ok hs
    unfold ringLen
    generalize hr : rs.getD k.toNat [] = r at *
    have : r.length = (r.length - 1) + 1 := by omega
    rw [this] at all
    show turnN r (r.length - 1) (turnTo (rs.getD k.toNat []) st (rs.getD k.toNat []).length) = st
    rw [hr]
    exact all
  | slide a b =>
    obtain ⟨hin, ⟨a0, a1, b0, b1, ab⟩, ga, gb⟩ := c
    have h' : (if (b, a) ∈ ts then some [Mv.slide b a] else none) = some x := h
    by_cases hba : (b, a) ∈ ts
    · rw [if_pos hba] at h'
      cases Option.some.inj h'
      have na : a.toNat ≠ b.toNat := by
        intro z
        exact ab (by show a = b; have : (0 : Int) ≤ a := a0; have : (0 : Int) ≤ b := b0; omega)
      have la : a.toNat < st.length := by have : a < n := a1; have : (0 : Int) ≤ a := a0; omega
      have lb : b.toNat < st.length := by have : b < n := b1; have : (0 : Int) ≤ b := b0; omega
      have e1 : gAt (stepMv rs st (.slide a b)) b = gAt st a := getD_set_eq (by rw [List.length_set]; exact lb)
      have e2 : gAt (stepMv rs st (.slide a b)) a = 0 := by
        show ((st.set a.toNat 0).set b.toNat (gAt st a)).getD a.toNat 0 = 0
        rw [getD_set_ne (Ne.symm na), getD_set_eq la]
      refine ⟨⟨⟨hba, tok _ hba, by rw [e1]; exact ga, e2⟩, trivial⟩, ?_⟩
      show ((stepMv rs st (.slide a b)).set b.toNat 0).set a.toNat (gAt (stepMv rs st (.slide a b)) b) = st
      rw [e1]
      show ((((st.set a.toNat 0).set b.toNat (gAt st a)).set b.toNat 0).set a.toNat (gAt st a)) = st
      refine List.ext_getElem? fun p => ?_
      by_cases pa : a.toNat = p
      · subst pa
        rw [List.getElem?_set_self (by simp only [List.length_set]; exact la), List.getElem?_eq_getElem la]
        unfold gAt
        rw [List.getD_eq_getElem?_getD, List.getElem?_eq_getElem la]
        rfl
      · rw [List.getElem?_set_ne pa]
        by_cases pb : b.toNat = p
        · subst pb
          rw [List.getElem?_set_self (by simp only [List.length_set]; exact lb), List.getElem?_eq_getElem lb]
          unfold gAt at gb
          rw [List.getD_eq_getElem?_getD, List.getElem?_eq_getElem lb] at gb
          exact congrArg some gb.symm
        · rw [List.getElem?_set_ne pb, List.getElem?_set_ne pb, List.getElem?_set_ne pa]
    · rw [if_neg hba] at h'
      cases h'
theorem back_all {n : Nat} {ts : List (Int × Int)} {rs : List (List Int)} {st : List Int} (tok : ∀ t ∈ ts, TieOk n t) (rok : ∀ r ∈ rs, RingOk n r) (hs : st.length = n) : ∀ (l : List Mv) (bs : List Mv), CanAll n ts rs st l.reverse → backs ts rs l = some bs →
    CanAll n ts rs (playMvs rs st l.reverse) bs ∧ playMvs rs (playMvs rs st l.reverse) bs = st
  | [], bs, _, h => by
    cases Option.some.inj h
    exact ⟨trivial, rfl⟩
  | m :: l, bs, c, h => by
    rw [List.reverse_cons] at c ⊢
    obtain ⟨c1, c2⟩ := can_split c
    have h' : ((backOne ts rs m).bind fun x => (backs ts rs l).map (x ++ ·)) = some bs := h
    cases h1 : backOne ts rs m with
    | none => rw [h1] at h'; cases h'
    | some x =>
      rw [h1] at h'
      cases h2 : backs ts rs l with
      | none => rw [h2] at h'; cases h'
      | some y =>
        rw [h2] at h'
        cases Option.some.inj h'
        obtain ⟨i1, i2⟩ := back_all tok rok hs l y c1 h2
        obtain ⟨b1, b2⟩ := back_one tok rok (by rw [play_len, hs]) c2 h1
        rw [play_snoc]
        refine ⟨can_app b1 (by rw [b2]; exact i1), ?_⟩
        rw [play_app, b2]
        exact i2
end Y
set_option Elab.async false
set_option linter.all false
set_option maxRecDepth 100000
set_option maxHeartbeats 4000000
namespace Y
open PySem L2
abbrev sIsMove : Stmt := top 999
/-- what the yard's class must keep -/
structure YCls (K : PySem.W.Frag) (C : Addr) : Prop where
  c : Cls K C
  p : NoAttr K C "places"
  t : NoAttr K C "ties"
  r : NoAttr K C "rings"
/-- at x: a yard made of n places, ties ts, rings rs -/
def YObj (K : PySem.W.Frag) (H : Hp) (x : Addr) (n : Nat) (ts : List (Int × Int)) (rs : List (List Int)) : Prop := ∃ (C dx a e : Addr) (fs : List (Str × V)) (ys zs : List V), H x = some (.ins C dx fs) ∧ YCls K C ∧ fs.lookup ("places" : Str) = some (.int (n : Int)) ∧ fs.lookup ("ties" : Str) = some (.ref a) ∧ fs.lookup ("rings" : Str) = some (.ref e) ∧
  SqT K H a ys ∧ Paired (TieAt K H) ys ts ∧ SqT K H e zs ∧ Paired (RingAt K H) zs rs
theorem YObj.kp {K : PySem.W.Frag} {H H' : Hp} {x : Addr} {n : Nat} {ts : List (Int × Int)} {rs : List (List Int)} (h : YObj K H x n ts rs) (s : Kp H H') : YObj K H' x n ts rs := by
  obtain ⟨C, dx, a, e, fs, ys, zs, h1, h2, h3, h4, h5, h6, h7, h8, h9⟩ := h
  exact ⟨C, dx, a, e, fs, ys, zs, s _ _ h1 (by intro _ z; cases z), h2, h3, h4, h5, s.seqT h6, ties_kp h7 s, s.seqT h8, rings_kp h9 s⟩
/-- the same, the class told -/
def YObjC (K : PySem.W.Frag) (H : Hp) (C x : Addr) (n : Nat) (ts : List (Int × Int)) (rs : List (List Int)) : Prop := ∃ (dx a e : Addr) (fs : List (Str × V)) (ys zs : List V), H x = some (.ins C dx fs) ∧ YCls K C ∧ fs.lookup ("places" : Str) = some (.int (n : Int)) ∧ fs.lookup ("ties" : Str) = some (.ref a) ∧ fs.lookup ("rings" : Str) = some (.ref e) ∧
  SqT K H a ys ∧ Paired (TieAt K H) ys ts ∧ SqT K H e zs ∧ Paired (RingAt K H) zs rs
theorem YObjC.y {K : PySem.W.Frag} {H : Hp} {C x : Addr} {n : Nat} {ts : List (Int × Int)} {rs : List (List Int)} (h : YObjC K H C x n ts rs) : YObj K H x n ts rs := by
  obtain ⟨dx, a, e, fs, ys, zs, h⟩ := h
  exact ⟨C, dx, a, e, fs, ys, zs, h⟩
theorem YObjC.kp {K : PySem.W.Frag} {H H' : Hp} {C x : Addr} {n : Nat} {ts : List (Int × Int)} {rs : List (List Int)} (h : YObjC K H C x n ts rs) (s : Kp H H') : YObjC K H' C x n ts rs := by
  obtain ⟨dx, a, e, fs, ys, zs, h1, h2, h3, h4, h5, h6, h7, h8, h9⟩ := h
  exact ⟨dx, a, e, fs, ys, zs, s _ _ h1 (by intro _ z; cases z), h2, h3, h4, h5, s.seqT h6, ties_kp h7 s, s.seqT h8, rings_kp h9 s⟩
/-- a move of this yard -/
def MvIn (ts : List (Int × Int)) (rs : List (List Int)) : Mv → Prop
  | .slide a b => (a, b) ∈ ts
  | .turn k => 0 ≤ k ∧ k < rs.length
def spIsMove (K : PySem.W.Frag) : Sp := fun vs H Q _ => ∃ (x : Addr) (y : V) (n : Nat) (ts : List (Int × Int)) (rs : List (List Int)) (m : Mv), vs = [.ref x, y] ∧ YObj K H x n ts rs ∧ MvAt K H y m ∧ MvIn ts rs m ∧ ∀ H', Same H H' → Q (.bl true) H'
structure TN (K : PySem.W.Frag) (mg : Str → Option Value) (fInt : Addr) : Prop where
  i : TI0 mg
  str : mg "str" = none
  len : mg "len" = none
  all : mg "all" = none
  gInt : mg "is_integer" = some (.ref fInt)
section
variable {P : Program} {w : World} {K : PySem.W.Frag} {mg : Str → Option Value} {base : Heap} {fInt : Addr}
end
end Y
set_option Elab.async false
set_option linter.all false
set_option maxRecDepth 100000
set_option maxHeartbeats 4000000
namespace Y
open PySem L2
/-! ### the ties, checked -/
def row2 (t : Int × Int) : List Int := [t.1, t.2]
theorem row2_inj {t u : Int × Int} (h : row2 t = row2 u) : t = u := by
  injection h with h1 h2
  injection h2 with h2 _
  exact Prod.ext h1 h2
theorem seqT_offE {K : PySem.W.Frag} {H : Hp} {D b : Addr} {xs : List V} {o u : HO} (h : SqT K H b xs) (e : H D = some u) (n1 : ∀ ys, u ≠ .tup ys) (n2 : ∀ o ys, u ≠ .frz o (.tup ys)) : SqT K (upd H D o) b xs := by
  rcases h with (h | ⟨o', h⟩) | h
  · exact .inl (.inl (by rw [upd_ne (fun z => n1 xs (by rw [z, e] at h; exact Option.some.inj h))]; exact h))
  · exact .inl (.inr ⟨o', by rw [upd_ne (fun z => n2 o' xs (by rw [z, e] at h; exact Option.some.inj h))]; exact h⟩)
  · exact .inr h
theorem seqT_offS {K : PySem.W.Frag} {P : Program} {w : World} {H : Hp} {D b a : Addr} {xs : List V} {o : HO} {L : List (Addr × List Int)} (h : SqT K H b xs) (e : H D = some (SetTO P w a L)) : SqT K (upd H D o) b xs :=
  seqT_offE h e (fun ys z => by unfold SetTO at z; cases z) (fun o ys z => by unfold SetTO at z; cases z)
theorem ties_uniq {n : Nat} {A : List (List Int)} {ts : List (Int × Int)} (h64 : n ≤ 60) (p : A.Perm (ts.map row2)) (ok : TiesOk n ts) (pw : A.Pairwise fun a b => TS.code 64 a ≤ TS.code 64 b) : A = ts.map row2 := by
  refine List.Perm.eq_of_pairwise (le := fun a b => TS.code 64 a ≤ TS.code 64 b) (fun a b ha hb h1 h2 => ?_) pw ?_ p
  · obtain ⟨t, ht, rfl⟩ := List.mem_map.mp (p.mem_iff.mp ha)
    obtain ⟨u, hu, rfl⟩ := List.mem_map.mp hb
    obtain ⟨a0, a1, b0, b1, _⟩ := ok.2.1 t ht
    obtain ⟨c0, c1, d0, d1, _⟩ := ok.2.1 u hu
    have e1 : TS.code 64 (row2 t) = t.1 * 64 + t.2 := code_pair _ _
    have e2 : TS.code 64 (row2 u) = u.1 * 64 + u.2 := code_pair _ _
    rw [e1, e2] at h1 h2
    have f1 : t.1 = u.1 := by omega
    have f2 : t.2 = u.2 := by omega
    rw [Prod.ext f1 f2]
  · rw [List.pairwise_map]
    exact ok.2.2
theorem ties_of {K : PySem.W.Frag} {H : Hp} : ∀ {L : List (Addr × List Int)} {ts : List (Int × Int)}, L.map (·.2) = ts.map row2 → (∀ p ∈ L, SqT K H p.1 (p.2.map V.int)) → Paired (TieAt K H) (L.map fun q => V.ref q.1) ts
  | [], [], _, _ => .nil
  | [], _ :: _, e, _ => by cases e
  | _ :: _, [], e, _ => by cases e
  | p :: L, t :: ts, e, h => by
    injection e with e1 e2
    refine .cons ⟨p.1, rfl, ?_⟩ (ties_of e2 fun q hq => h q (List.mem_cons_of_mem _ hq))
    have := h p List.mem_cons_self
    rw [show p.2 = row2 t from e1] at this
    exact this
theorem row2_ok {n : Nat} {t : Int × Int} (h : TieOk n t) : (∀ z ∈ row2 t, 0 ≤ z ∧ z < n) ∧ (row2 t).Nodup := by
  obtain ⟨a0, a1, b0, b1, ne⟩ := h
  refine ⟨fun z hz => ?_, ?_⟩
  · rcases List.mem_cons.mp hz with rfl | hz
    · exact ⟨a0, a1⟩
    · rw [List.mem_singleton.mp hz]; exact ⟨b0, b1⟩
  · show [t.1, t.2].Nodup
    simp [ne]
def spCTies (K : PySem.W.Frag) : Sp := fun vs H Q _ => ∃ (n : Nat) (z : Addr) (zs : List V) (ps ts : List (Int × Int)), vs = [.int (n : Int), .ref z] ∧ SqA K H z zs ∧ Paired (RowAt K H) zs (ps.map row2) ∧ ps.Perm ts ∧ TiesOk n ts ∧ n ≤ 60 ∧ ts.length ≤ 60 ∧
  ∀ t ys H', H' t = some (.tup ys) → Paired (TieAt K H') ys ts → Same H H' → Q (.ref t) H'
section
variable {P : Program} {w : World} {K : PySem.W.Frag} {mg : Str → Option Value} {base : Heap} {fInt fRow fUn fCnt : Addr}
theorem scCTies : FnScope ["places", "ties", "seen", "tie"] ["places", "ties"] (defScope sCTies) := ⟨rfl, rfl, rfl, by decide +kernel, rfl, by decide +kernel, by decide +kernel⟩
theorem ok_cties {f : Addr} {fd fdR fdU : FuncData} (F : Fun K "checked_ties" "checked_ties" sCTies f fd) (T : TUn K mg fInt fRow fUn fCnt) (FR : Fun K "is_row" "is_row" sIsRow fRow fdR) (bR : Binds K fdR ["value"] [])
    (GU : FnOk P w K mg base CX0 3 fUn fdU ["many", "value"] (spUnlike K)) (FU : Fun K "are_unlike_numbers" "are_unlike_numbers" sUnlike fUn fdU) (bU : Binds K fdU ["many", "value"] []) :
    FnOk P w K mg base CX0 4 f fd ["places", "ties"] (spCTies K) := by
  have GR : FnOk P w K mg base CX0 1 fRow fdR ["value"] (spIsRow K) := ok_isRow FR T.i
  refine F.ok scCTies (fun vs H Q E h => ?_) (fun cdv A outer s H vs Q E hr h => ?_)
  · obtain ⟨n, z, zs, ps, ts, rfl, _⟩ := h
    rfl
  · obtain ⟨n, z, zs, ps, ts, rfl, hz, pz, pm, ok, n60, t60, k⟩ := h
    have hu := hr.units
    have hr1 : Room 1 _ := hr.mono (by decide)
    refine ⟨_, pss_cons (ps_if (pt_not (pt_val (pe_call GR hr1 (by rfl) T.gRow FR.kp bR .nil pass0 (pa_cons (pv 1) pa_nil)))) (pss_one ps_never) pss_nil)
      (pss_cons (ps_set (i := 2) scCTies.nd rfl (Or.inl rfl) (pe_callTy0 cr_set0T (by rfl) T.set (by decide +kernel)))
      (pss_cons (ps_for PassesOwn.never rfl (pi_seqV (pv 1)) (pg_name (i := 3) scCTies.nd rfl (Or.inl rfl))
        (pss_cons (ps_if (PW.pt (pw_or (pt_not (pt_val (pe_call GU hr (by rfl) T.gUn FU.kp bU .nil pass0 (pa_cons (pv 0) (pa_cons (pv 3) pa_nil))))) (pw_or (pt_cmpR op_ne (pe_callB call_len_seq (by rfl) T.len PySem.boot_len (pa_cons (pv 3) pa_nil)) pe_int (nomark _))
            (pw_or1 (pt_cmpR (op_inSetT hu) (pe_callTy call_tuple_any (by rfl) T.i.tuple (by decide +kernel) (pa_cons (pv 3) pa_nil)) (pv 2) (by rfl)))))) (pss_one ps_never) pss_nil)
        (pss_one (ps_expr (pe_saddT hu (pv 2) (pa_cons (pe_callTy call_tuple_any (by rfl) T.i.tuple (by decide +kernel) (pa_cons (pv 3) pa_nil)) pa_nil))))))
      (pss_one (ps_ret (pe_callTy call_tuple_of (by rfl) T.i.tuple (by decide +kernel) (pa_cons (pe_callB (cr_sortedT rfl) (by rfl) T.sorted (by decide +kernel) (pa_cons (pv 2) pa_nil)) pa_nil)))))), ?_⟩
    refine ⟨_, rfl, _, rfl, hz.imp (TyX.same (H' := H)) ty_tup, fun H1 s1 => ⟨_, rfl, iteF ?_⟩⟩
    refine ⟨rfl, fun sn nsn => ?_⟩
    have nsH : H sn = none := s1.free nsn
    have S0 : Same H (upd H1 sn (SetTO P w sn [])) := s1.trans (Same.new nsn)
    have hlen : zs.length = ps.length := by rw [Paired.length pz, List.length_map]
    have pl := pm.length_eq
    have nd : (ps.map row2).Nodup := by
      refine List.Pairwise.map _ (fun a b (h : a ≠ b) e => h (row2_inj e)) ?_
      exact (pm.nodup_iff).mpr ok.1
    refine ⟨z, zs, H, rfl, hz, .of_same S0, fun J G w1 hG => ?_⟩
    refine for_it w1 (fun i σ H' => ∃ (v : Option V) (L : List (Addr × List Int)), σ = [some (.int (n : Int)), some (.ref z), some (.ref sn), v] ∧ H' sn = some (SetTO P w sn L) ∧ (L.map (·.2)).Perm ((ps.map row2).take i) ∧ (∀ p ∈ L, SqT K H' p.1 (p.2.map V.int)) ∧ Same H H')
      ⟨none, [], rfl, upd_same, .refl _, (fun p hp => by cases hp), S0⟩ (fun i σ H' _ ⟨_, _, _, _, _, _, s⟩ => hG H' (.of_same s)) ?_ ?_
    · rintro i x σ H2 H2' hi ⟨v, L, rfl, eS, pL, hL, s2⟩ ⟨rfl, hx⟩
      obtain ⟨r, er, hrow⟩ := par_get pz hx
      obtain ⟨t, et, rfl⟩ : ∃ t, ps[i]? = some t ∧ row2 t = r := by
        rw [List.getElem?_map] at er
        cases e : ps[i]? with
        | none => rw [e] at er; cases er
        | some t => rw [e] at er; exact ⟨t, rfl, Option.some.inj er⟩
      have tok := ok.2.1 t (pm.mem_iff.mp (List.mem_of_getElem? et))
      obtain ⟨b, rfl, hb⟩ := id hrow
      have hb2 := Same.seqA s2 hb
      have lenL : L.length = i := by
        have := pL.length_eq
        rw [List.length_map, List.length_take, List.length_map] at this
        omega
      refine ⟨_, rfl, _, rfl, n, _, row2 t, rfl, ⟨b, rfl, hb2⟩, (row2_ok tok).1, (row2_ok tok).2, (by decide : 2 < 64), fun H3 s3 => ⟨_, rfl, iteF ?_⟩⟩
      have hb3 := Same.seqA s3 hb2
      refine ⟨_, rfl, b, _, rfl, hb3, rfl, _, rfl, iteF ?_⟩
      refine ⟨_, rfl, b, _, rfl, hb3, fun t4 H4 h4 s4 => ?_⟩
      have s34 := s3.trans s4
      have fresh : row2 t ∉ L.map (·.2) := fun z => by
        have z2 := pL.mem_iff.mp z
        obtain ⟨j, hj, ej⟩ := List.getElem_of_mem z2
        rw [List.length_take] at hj
        rw [List.getElem_take] at ej
        have hi2 : (ps.map row2)[i]? = some (row2 t) := er
        obtain ⟨hi3, e3⟩ := List.getElem?_eq_some_iff.mp hi2
        have := (List.getElem_inj nd).mp (ej.trans e3.symm)
        omega
      refine ⟨_, rfl, sn, t4, L, row2 t, rfl, rfl, s34 _ _ eS, (fun p hp => Same.seqT s34 (hL p hp)), h4, _, rfl, ?_⟩
      rw [decide_eq_false fresh]
      refine iteF ?_
      refine ⟨_, rfl, ⟨sn, L, rfl, s34 _ _ eS⟩, _, rfl, b, _, rfl, Same.seqA s4 hb3, fun t5 H5 h5 s5 => ?_⟩
      have s35 := s34.trans s5
      refine ⟨sn, t5, L, row2 t, rfl, rfl, s35 _ _ eS, (fun p hp => Same.seqT s35 (hL p hp)), h5, by omega, fun L' _ c2 => ?_⟩
      have p2 := c2 fresh
      refine ⟨_, L', rfl, upd_same, ?_, fun p hp => ?_, Same.upd_new (s2.trans s35) nsH⟩
      · rw [take_next er]
        have q1 : (L'.map (·.2)).Perm (row2 t :: L.map (·.2)) := p2.map (·.2)
        exact q1.trans ((pL.cons _).trans (List.perm_append_singleton _ _).symm)
      · rcases List.mem_cons.mp (p2.mem_iff.mp hp) with rfl | hp
        · exact seqT_offS h5 (s35 _ _ eS)
        · exact seqT_offS (Same.seqT s35 (hL p hp)) (s35 _ _ eS)
    · rintro σ H2 ⟨v, L, rfl, eS, pL, hL, s2⟩
      rw [hlen, ← List.length_map (f := row2), List.take_length] at pL
      have pLt : (L.map (·.2)).Perm (ts.map row2) := pL.trans (pm.map row2)
      refine ⟨_, rfl, sn, L, 2, 64, rfl, eS, hL, by decide, fun p hp => ?_, fun L' q pm' nd' l64 pw nq => ?_⟩
      · obtain ⟨t, ht, e⟩ := List.mem_map.mp (pLt.mem_iff.mp (List.mem_map.mpr ⟨p, hp, rfl⟩))
        have e' : row2 t = p.2 := e
        obtain ⟨a0, a1, b0, b1, _⟩ := ok.2.1 t ht
        rw [← e']
        refine ⟨rfl, fun z hz => ?_⟩
        rcases List.mem_cons.mp hz with rfl | hz
        · omega
        · rw [List.mem_singleton.mp hz]; omega
      · have eL : L'.map (·.2) = ts.map row2 := ties_uniq n60 ((pm'.map (·.2)).trans pLt) ok (by rw [List.pairwise_map]; exact pw)
        refine ⟨q, _, rfl, .inl ⟨SqL.of upd_same, fun t nt => ?_⟩⟩
        have s3 := (Same.new (o := .lst (L'.map fun q => V.ref q.1)) nq).trans (Same.new (o := .tup (L'.map fun q => V.ref q.1)) nt)
        exact k t _ _ upd_same (ties_of eL fun p hp => Same.seqT s3 (hL p (pm'.mem_iff.mp hp))) (s2.trans s3)
end
end Y
set_option Elab.async false
set_option linter.all false
set_option maxRecDepth 100000
set_option maxHeartbeats 4000000
namespace Y
open PySem L2
/-! ### the rings, checked; a yard made -/
abbrev sMade : Stmt := top 49
def spCRings (K : PySem.W.Frag) : Sp := fun vs H Q _ => ∃ (n : Nat) (z : Addr) (zs : List V) (rs : List (List Int)), vs = [.int (n : Int), .ref z] ∧ SqA K H z zs ∧ Paired (RowAt K H) zs rs ∧ (∀ r ∈ rs, RingOk n r) ∧ n ≤ 60 ∧ rs.length ≤ 100 ∧
  ∀ t ys H', H' t = some (.tup ys) → Paired (RingAt K H') ys rs → Same H H' → Q (.ref t) H'
def spYInit (K : PySem.W.Frag) : Sp := fun vs H Q _ => ∃ (x C dx a e : Addr) (n : Nat) (zs ws : List V) (ps ts : List (Int × Int)) (rs : List (List Int)), vs = [.ref x, .int (n : Int), .ref a, .ref e] ∧ YCls K C ∧ H x = some (.ins C dx []) ∧ 1 ≤ n ∧ n ≤ 60 ∧
  SqA K H a zs ∧ Paired (RowAt K H) zs (ps.map row2) ∧ ps.Perm ts ∧ TiesOk n ts ∧ ts.length ≤ 60 ∧ SqA K H e ws ∧ Paired (RowAt K H) ws rs ∧ (∀ r ∈ rs, RingOk n r) ∧ rs.length ≤ 100 ∧
  ∀ H', YObjC K H' C x n ts rs → (∀ b o, b ≠ x → H b = some o → H' b = some o) → Q .non H'
def spMade (K : PySem.W.Frag) (C : Addr) : Sp := fun vs H Q _ => ∃ (p c q : Addr) (n b : Nat) (ts : List (Int × Int)) (rs : List (List Int)), vs = [.ref p, .ref q] ∧ Pen H p c (b + 130) ∧ YdAt K H q n ts rs ∧ YdOk n ts rs ∧
  ∀ x H', YObjC K H' C x n ts rs → Kp H H' → Pen H' p c b → Q (.ref x) H'
/-- what is no instance stands when an instance changes -/
theorem seqT_offI {K : PySem.W.Frag} {H : Hp} {x a C dx : Addr} {fs : List (Str × V)} {xs : List V} {o : HO} (h : SqT K H a xs) (e : H x = some (.ins C dx fs)) : SqT K (upd H x o) a xs :=
  seqT_offE h e (fun _ z => by cases z) (fun _ _ z => by cases z)
theorem seqL_offI {K : PySem.W.Frag} {H : Hp} {x a C dx : Addr} {fs : List (Str × V)} {xs : List V} {o : HO} (h : SqL K H a xs) (e : H x = some (.ins C dx fs)) : SqL K (upd H x o) a xs := by
  rcases h with (h | ⟨o', h⟩) | h
  · exact .inl (.inl (by rw [upd_ne (ne_of h e (by intro z; cases z))]; exact h))
  · exact .inl (.inr ⟨o', by rw [upd_ne (ne_of h e (by intro z; cases z))]; exact h⟩)
  · exact .inr h
theorem seqA_offI {K : PySem.W.Frag} {H : Hp} {x a C dx : Addr} {fs : List (Str × V)} {xs : List V} {o : HO} (h : SqA K H a xs) (e : H x = some (.ins C dx fs)) : SqA K (upd H x o) a xs :=
  h.imp (fun h => seqL_offI h e) fun h => seqT_offI h e
theorem rows_offI {K : PySem.W.Frag} {H : Hp} {x C dx : Addr} {fs : List (Str × V)} {ys : List V} {rs : List (List Int)} {o : HO} (h : Paired (RowAt K H) ys rs) (e : H x = some (.ins C dx fs)) : Paired (RowAt K (upd H x o)) ys rs :=
  par_map (fun y r ⟨b, e1, hb⟩ => ⟨b, e1, seqA_offI hb e⟩) h
theorem ties_offI {K : PySem.W.Frag} {H : Hp} {x C dx : Addr} {fs : List (Str × V)} {ys : List V} {ts : List (Int × Int)} {o : HO} (h : Paired (TieAt K H) ys ts) (e : H x = some (.ins C dx fs)) : Paired (TieAt K (upd H x o)) ys ts :=
  par_map (fun y r ⟨b, e1, hb⟩ => ⟨b, e1, seqT_offI hb e⟩) h
theorem rings_offI {K : PySem.W.Frag} {H : Hp} {x C dx : Addr} {fs : List (Str × V)} {ys : List V} {rs : List (List Int)} {o : HO} (h : Paired (RingAt K H) ys rs) (e : H x = some (.ins C dx fs)) : Paired (RingAt K (upd H x o)) ys rs :=
  par_map (fun y r ⟨b, e1, hb⟩ => ⟨b, e1, seqT_offI hb e⟩) h
theorem par_perm {R : V → Int × Int → Prop} {ys ys' : List V} (p : ys'.Perm ys) : ∀ {ts : List (Int × Int)}, Paired R ys ts → ∃ ps, ps.Perm ts ∧ Paired R ys' ps := by
  induction p with
  | nil => intro ts h; exact ⟨ts, .refl _, h⟩
  | cons x _ ih =>
    intro ts h
    cases h with
    | cons a t =>
      obtain ⟨ps, p1, h1⟩ := ih t
      exact ⟨_ :: ps, p1.cons _, .cons a h1⟩
  | swap x y l =>
    intro ts h
    cases h with
    | cons a t =>
      cases t with
      | cons b t => exact ⟨_, List.Perm.swap _ _ _, .cons b (.cons a t)⟩
  | trans _ _ ih1 ih2 =>
    intro ts h
    obtain ⟨ps, p1, h1⟩ := ih2 h
    obtain ⟨qs, p2, h2⟩ := ih1 h1
    exact ⟨qs, p2.trans p1, h2⟩
theorem par_rows {K : PySem.W.Frag} {H : Hp} {ys : List V} {ps : List (Int × Int)} (h : Paired (TieAt K H) ys ps) : Paired (TupI K H) ys (ps.map row2) := by
  induction h with
  | nil => exact .nil
  | cons a _ ih => exact .cons a ih
structure TYd (K : PySem.W.Frag) (mg : Str → Option Value) (C fInt fRow fUn fCnt fCT fCR : Addr) : Prop where
  u : TUn K mg fInt fRow fUn fCnt
  gCT : mg "checked_ties" = some (.ref fCT)
  gCR : mg "checked_rings" = some (.ref fCR)
  cls : YCls K C
  gYard : mg "Yard" = some (.ref C)
section
variable {P : Program} {w : World} {K : PySem.W.Frag} {mg : Str → Option Value} {base : Heap} {fInt fRow fUn fCnt fCT fCR fDraw fL : Addr}
theorem scCRings : FnScope ["places", "rings", "index", "ring"] ["places", "rings"] (defScope sCRings) := ⟨rfl, rfl, rfl, by decide +kernel, rfl, by decide +kernel, by decide +kernel⟩
theorem ok_crings {f : Addr} {fd fdR fdU : FuncData} (F : Fun K "checked_rings" "checked_rings" sCRings f fd) (T : TUn K mg fInt fRow fUn fCnt) (FR : Fun K "is_row" "is_row" sIsRow fRow fdR) (bR : Binds K fdR ["value"] [])
    (GU : FnOk P w K mg base CX0 3 fUn fdU ["many", "value"] (spUnlike K)) (FU : Fun K "are_unlike_numbers" "are_unlike_numbers" sUnlike fUn fdU) (bU : Binds K fdU ["many", "value"] []) :
    FnOk P w K mg base CX0 4 f fd ["places", "rings"] (spCRings K) := by
  have GR : FnOk P w K mg base CX0 1 fRow fdR ["value"] (spIsRow K) := ok_isRow FR T.i
  refine F.ok scCRings (fun vs H Q E h => ?_) (fun cdv A outer s H vs Q E hr h => ?_)
  · obtain ⟨n, z, zs, rs, rfl, _⟩ := h
    rfl
  · obtain ⟨n, z, zs, rs, rfl, hz, pz, rok, n60, r100, k⟩ := h
    have hr1 : Room 1 _ := hr.mono (by decide)
    refine ⟨_, pss_cons (ps_if (pt_not (pt_val (pe_call GR hr1 (by rfl) T.gRow FR.kp bR .nil pass0 (pa_cons (pv 1) pa_nil)))) (pss_one ps_never) pss_nil)
      (pss_cons (ps_for PassesOwn.never rfl (pi_enumV (by rfl) T.enum (pv 1)) (pg_tup rfl (pgs_cons (pg_name (i := 2) scCRings.nd rfl (Or.inl rfl)) (pgs_cons (pg_name (i := 3) scCRings.nd rfl (Or.inl rfl)) pgs_nil)))
        (pss_one (ps_if (PW.pt (pw_or (pt_not (pt_val (pe_call GU hr (by rfl) T.gUn FU.kp bU .nil pass0 (pa_cons (pv 0) (pa_cons (pv 3) pa_nil))))) (pw_or1 (pt_cmpR op_lt (pe_callB call_len_seq (by rfl) T.len PySem.boot_len (pa_cons (pv 3) pa_nil)) pe_int (nomark _))))) (pss_one ps_never) pss_nil)))
      (pss_one (ps_ret (pe_callTy call_tuple_of (by rfl) T.i.tuple (by decide +kernel) (pa_cons (pe_lc (own := [("ring", 3)]) (g := gName 3) (tt := tYes) rfl scCRings.nd (pi_seqV (pv 1)) (blkOk_by (N := ["places", "rings", "index", "ring"]) (sc := defScope sCRings) (by decide +kernel))
        (fun _ _ _ _ _ => pg_name (i := 3) scCRings.nd rfl (Or.inl rfl)) (fun _ _ _ _ _ => pts_nil) (fun _ _ _ _ _ => pe_callTy (call_tuple_anyK (K := K) rfl) (by rfl) T.i.tuple (by decide +kernel) (pa_cons (pv 3) pa_nil))) pa_nil))))), ?_⟩
    refine ⟨_, rfl, _, rfl, hz.imp (TyX.same (H' := H)) ty_tup, fun H1 s1 => ⟨_, rfl, iteF ?_⟩⟩
    have hlen : zs.length = rs.length := Paired.length pz
    refine ⟨z, zs, H, rfl, hz, .of_same s1, fun J G w1 hG => ?_⟩
    refine for_it w1 (fun i σ H' => ∃ (v2 v3 : Option V), σ = [some (.int (n : Int)), some (.ref z), v2, v3] ∧ Same H H') ⟨none, none, rfl, s1⟩ (fun i σ H' _ ⟨_, _, _, s⟩ => hG H' (.of_same s)) ?_ ?_
    · rintro i v σ H2 H3 hi ⟨v2, v3, rfl, s2⟩ ⟨T1, u, y, rfl, nT, rfl, e1, e2⟩
      cases Option.some.inj e1
      have s3 := s2.trans (Same.new (o := .tup [.int (i : Nat), y]) nT)
      obtain ⟨r, er, hrow⟩ := par_get pz e2
      obtain ⟨rn, rb, r3, rl⟩ := rok r (List.mem_of_getElem? er)
      obtain ⟨b, rfl, hb⟩ := id hrow
      refine ⟨T1, _, rfl, SqT.of upd_same, rfl, _, _, rfl, _, _, rfl, rfl, ?_⟩
      refine ⟨_, rfl, _, rfl, n, _, r, rfl, ⟨b, rfl, Same.seqA s3 hb⟩, rb, rn, by omega, fun H4 s4 => ⟨_, rfl, iteF ?_⟩⟩
      refine ⟨_, rfl, b, _, rfl, Same.seqA (s3.trans s4) hb, _, _, rfl, rfl, _, rfl, ?_⟩
      refine ifT (fun h => ?_) (fun _ => ⟨_, _, rfl, s3.trans s4⟩)
      have h' : (((r.map V.int).length : Nat) : Int) < 3 := of_decide_eq_true h
      rw [List.length_map] at h'
      omega
    · rintro σ H2 ⟨v2, v3, rfl, s2⟩
      refine ⟨z, zs, H, rfl, hz, .of_same s2, fun J2 G2 w2 hG2 D hD => ?_⟩
      have nDH : H D = none := s2.free hD
      refine lc_it w2 (fun i H' => ∃ ws, H' D = some (.lst ws) ∧ Paired (RingAt K H') ws (rs.take i) ∧ ws.length = i ∧ Same H H') ⟨[], upd_same, .nil, rfl, s2.trans (Same.new hD)⟩ (fun i H' _ ⟨_, _, _, _, s⟩ => hG2 H' (.of_same s)) (fun i x H3 H3' hi h y => ?_) (fun H3 h => ?_)
      · obtain ⟨ws, eD, pw, lw, s3⟩ := h
        obtain ⟨rfl, hx⟩ := y
        obtain ⟨r, er, b, rfl, hb⟩ := par_get pz hx
        refine ⟨rfl, _, rfl, b, _, rfl, Same.seqA s3 hb, fun t H4 ht s4 => ?_⟩
        have eD4 := s4 _ _ eD
        refine ⟨ws, eD4, Nat.lt_of_le_of_lt (by omega : ws.length ≤ 100) (by decide), ws ++ [V.ref t], upd_same, ?_, by rw [List.length_append, lw]; rfl, Same.upd_new (s3.trans s4) nDH⟩
        rw [take_next er]
        exact par_snoc (par_map (fun y r ⟨b, e1, hb⟩ => ⟨b, e1, seqT_off (Same.seqT s4 hb) eD4⟩) pw) ⟨t, rfl, seqT_off ht eD4⟩
      · obtain ⟨ws, eD, pw, lw, s3⟩ := h
        rw [hlen, List.take_length] at pw
        exact ⟨D, _, rfl, .inl ⟨SqL.of eD, fun t nt => k t ws _ upd_same (rings_kp pw (.new nt)) (s3.trans (Same.new nt))⟩⟩
theorem scYInit : FnScope ["self", "places", "ties", "rings"] ["self", "places", "ties", "rings"] (defScope sYInit) := ⟨rfl, rfl, rfl, by decide +kernel, rfl, by decide +kernel, by decide +kernel⟩
theorem ok_yinit {f C : Addr} {fd fdI fdT fdR : FuncData} (F : Fun K "__init__" "Yard.__init__" sYInit f fd) (T : TYd K mg C fInt fRow fUn fCnt fCT fCR) (FI : Fun K "is_integer" "is_integer" sIsInt fInt fdI) (bI : Binds K fdI ["value"] [])
    (GT : FnOk P w K mg base CX0 4 fCT fdT ["places", "ties"] (spCTies K)) (FT : Fun K "checked_ties" "checked_ties" sCTies fCT fdT) (bT : Binds K fdT ["places", "ties"] [])
    (GR : FnOk P w K mg base CX0 4 fCR fdR ["places", "rings"] (spCRings K)) (FR : Fun K "checked_rings" "checked_rings" sCRings fCR fdR) (bR : Binds K fdR ["places", "rings"] []) :
    FnOk P w K mg base CX0 5 f fd ["self", "places", "ties", "rings"] (spYInit K) := by
  have GI : FnOk P w K mg base CX0 1 fInt fdI ["value"] spIsInt := ok_isInt FI T.u.i
  refine F.ok scYInit (fun vs H Q E h => ?_) (fun cdv A outer s H vs Q E hr h => ?_)
  · obtain ⟨x, C, dx, a, e, n, zs, ws, ps, ts, rs, rfl, _⟩ := h
    rfl
  · obtain ⟨x, C, dx, a, e, n, zs, ws, ps, ts, rs, rfl, yc, hx, n1, n60, ha, pa, pm, tok, t60, he, pe, rok, r100, k⟩ := h
    have hr1 : Room 1 _ := hr.mono (by decide)
    refine ⟨_, pss_cons (ps_if (PW.pt (pw_or (pt_not (pt_val (pe_call GI hr1 (by rfl) T.u.gInt FI.kp bI .nil pass0 (pa_cons (pv 1) pa_nil)))) (pw_or1 (pt_cmpR op_lt (pv 1) pe_int (nomark _))))) (pss_one ps_never) pss_nil)
      (pss_cons (ps_fld (pv 0) (pv 1) rfl)
      (pss_cons (ps_fld (pv 0) (pe_call GT hr (by rfl) T.gCT FT.kp bT .nil pass0 (pa_cons (pv 1) (pa_cons (pv 2) pa_nil))) rfl)
      (pss_one (ps_fld (pv 0) (pe_call GR hr (by rfl) T.gCR FR.kp bR .nil pass0 (pa_cons (pv 1) (pa_cons (pv 3) pa_nil))) rfl)))), ?_⟩
    refine ⟨_, rfl, (n : Int), rfl, _, rfl, iteF ?_⟩
    refine ⟨_, rfl, _, _, rfl, rfl, _, rfl, ?_⟩
    refine ifT (fun h => ?_) (fun _ => ?_)
    · have h' : (n : Int) < 1 := of_decide_eq_true h
      omega
    refine ⟨_, rfl, _, rfl, x, C, dx, [], rfl, hx, yc.c, yc.p, (by show 0 < 1000; decide), ?_⟩
    have hx1 : (upd H x (.ins C dx (putF "places" (.int (n : Int)) []))) x = some (.ins C dx (putF "places" (.int (n : Int)) [])) := upd_same
    refine ⟨_, rfl, _, rfl, n, a, zs, ps, ts, rfl, seqA_offI ha hx, rows_offI pa hx, pm, tok, n60, t60, fun t ys H2 et pt s2 => ?_⟩
    have hx2 := s2 _ _ hx1
    refine ⟨_, rfl, x, C, dx, _, rfl, hx2, yc.c, yc.t, (by show 1 < 1000; decide), ?_⟩
    have hx3 : (upd H2 x (.ins C dx (putF "ties" (.ref t) (putF "places" (.int (n : Int)) [])))) x = some (.ins C dx (putF "ties" (.ref t) (putF "places" (.int (n : Int)) []))) := upd_same
    refine ⟨_, rfl, _, rfl, n, e, ws, rs, rfl, seqA_offI (Same.seqA s2 (seqA_offI he hx)) hx2, rows_offI (rows_kp (rows_offI pe hx) (.of_same s2)) hx2, rok, n60, r100, fun u vs' H4 eu pu s4 => ?_⟩
    have hx4 := s4 _ _ hx3
    refine ⟨_, rfl, x, C, dx, _, rfl, hx4, yc.c, yc.r, (by show 2 < 1000; decide), ?_⟩
    refine k _ ⟨dx, t, u, _, ys, vs', upd_same, yc, ?_, ?_, ?_, seqT_offI (Same.seqT s4 (seqT_offI (SqT.of et) hx2)) hx4, ties_offI (ties_kp (ties_offI pt hx2) (.of_same s4)) hx4, seqT_offI (SqT.of eu) hx4, rings_offI pu hx4⟩ fun b o nb e0 => ?_
    · rw [lookup_putF, if_neg (by decide +kernel), lookup_putF, if_neg (by decide +kernel), lookup_putF, if_pos rfl]
    · rw [lookup_putF, if_neg (by decide +kernel), lookup_putF, if_pos rfl]
    · rw [lookup_putF, if_pos rfl]
    · rw [upd_ne nb]
      refine s4 _ _ ?_
      rw [upd_ne nb]
      refine s2 _ _ ?_
      rw [upd_ne nb]
      exact e0
end
end Y
set_option Elab.async false
set_option linter.all false
set_option maxRecDepth 100000
set_option maxHeartbeats 4000000
namespace L2
open PySem PySem.Spec PyProof.Rows
/-- an item of a list or a tuple, whichever it is -/
def rIxA (K : PySem.W.Frag) : R2 := fun x y H Q => ∃ (p : Addr) (xs : List V) (i : Int) (z : V), x = .ref p ∧ y = .int i ∧ (SqL K H p xs ∨ SqT K H p xs) ∧ atI xs i = some z ∧ Q z H
theorem ix_any {X : Cx} : IxR X (rIxA X.K) := by
  intro value slice pins s σ H x y v u Q I rx ry h hs
  obtain ⟨p, xs, i, z, e1, e2, hq, he, q⟩ := h
  rcases hq with hq | hq
  · exact ix_list value slice pins s σ H x y v u Q I rx ry ⟨p, xs, i, z, e1, e2, hq, he, q⟩ hs
  · exact ix_tup value slice pins s σ H x y v u Q I rx ry ⟨p, xs, i, z, e1, e2, hq, he, q⟩ hs
end L2
namespace Y
open PySem L2
abbrev sIsStand : Stmt := top 999
abbrev sCanBe : Stmt := top 999
abbrev sBehind : Stmt := top 20
abbrev sBehindAll : Stmt := top 999
abbrev sPlayed : Stmt := top 999
/-! ### a turn, as the program makes it -/
def prevI (r : List Int) (j : Nat) : Nat := (j + (r.length - 1)) % r.length
def turnP (r st : List Int) (m : Nat) : List Int := (List.range m).foldl (fun acc j => acc.set (pl r j) (st.getD (pl r (prevI r j)) 0)) st
theorem turnP_succ (r st : List Int) (m : Nat) : turnP r st (m + 1) = (turnP r st m).set (pl r m) (st.getD (pl r (prevI r m)) 0) := by
  unfold turnP
  rw [List.range_succ, List.foldl_append]
  rfl
theorem turnP_len (r st : List Int) : ∀ m, (turnP r st m).length = st.length
  | 0 => rfl
  | m + 1 => by rw [turnP_succ, List.length_set, turnP_len r st m]
theorem turnP_at {n : Nat} {r st : List Int} (ok : RingOk n r) (hs : st.length = n) : ∀ m, m ≤ r.length → (∀ j, j < m → (turnP r st m).getD (pl r j) 0 = st.getD (pl r (prevI r j)) 0) ∧ (∀ p, (∀ j, j < m → pl r j ≠ p) → (turnP r st m).getD p 0 = st.getD p 0)
  | 0, _ => ⟨fun j h => absurd h (Nat.not_lt_zero _), fun p _ => rfl⟩
  | m + 1, hm => by
    obtain ⟨h1, h2⟩ := turnP_at ok hs m (by omega)
    rw [turnP_succ]
    refine ⟨fun j hj => ?_, fun p hp => ?_⟩
    · by_cases c : j = m
      · subst c
        exact getD_set_eq (by rw [turnP_len, hs]; exact pl_lt ok (by omega))
      · rw [getD_set_ne (fun z => c (pl_inj ok (by omega) (by omega) z).symm)]
        exact h1 j (by omega)
    · rw [getD_set_ne (hp m (by omega))]
      exact h2 p fun j hj => hp j (by omega)
theorem turnP_eq {n : Nat} {r st : List Int} (ok : RingOk n r) (hs : st.length = n) : turnP r st r.length = turnTo r st r.length := by
  refine List.ext_getElem? fun p => ?_
  by_cases hp : p < st.length
  · have hp1 : p < (turnP r st r.length).length := by rw [turnP_len]; exact hp
    have hp2 : p < (turnTo r st r.length).length := by rw [turnTo_len]; exact hp
    have g : (turnP r st r.length).getD p 0 = (turnTo r st r.length).getD p 0 := by
      by_cases c : ∃ i, i < r.length ∧ pl r i = p
      · obtain ⟨i, hi, rfl⟩ := c
        rw [(turnP_at ok hs r.length (Nat.le_refl _)).1 i hi]
        exact (turn1_ring ok hs hi).symm
      · rw [(turnP_at ok hs r.length (Nat.le_refl _)).2 p fun j hj z => c ⟨j, hj, z⟩]
        exact (turn1_off ok hs fun i hi z => c ⟨i, hi, z⟩).symm
    rw [List.getD_eq_getElem?_getD, List.getD_eq_getElem?_getD, List.getElem?_eq_getElem hp1, List.getElem?_eq_getElem hp2] at g
    rw [List.getElem?_eq_getElem hp1, List.getElem?_eq_getElem hp2]
    exact congrArg some g
  · rw [List.getElem?_eq_none (by rw [turnP_len]; omega), List.getElem?_eq_none (by rw [turnTo_len]; omega)]
theorem prevI_lt {r : List Int} {j : Nat} (h : j < r.length) : prevI r j < r.length := Nat.mod_lt _ (by omega)
theorem atI_prev {r : List Int} {j : Nat} (h : j < r.length) : atI (r.map V.int) ((j : Int) - 1) = some (.int (r.getD (prevI r j) 0)) := by
  have hl : (r.map V.int).length = r.length := List.length_map _
  by_cases c : j = 0
  · subst c
    have e : prevI r 0 = r.length - 1 := by unfold prevI; rw [Nat.zero_add, Nat.mod_eq_of_lt (by omega)]
    unfold atI ixN
    rw [hl, if_neg (by omega), if_pos (by omega), e]
    show (r.map V.int)[((((0 : Nat) : Int) - 1) + (r.length : Int)).toNat]? = _
    rw [show ((((0 : Nat) : Int) - 1) + (r.length : Int)).toNat = r.length - 1 by omega]
    exact getD_at (by omega)
  · have e : prevI r j = j - 1 := by
      unfold prevI
      rw [show j + (r.length - 1) = (j - 1) + r.length by omega, Nat.add_mod_right, Nat.mod_eq_of_lt (by omega)]
    rw [e, show ((j : Int) - 1) = ((j - 1 : Nat) : Int) by omega]
    exact atI_nat (getD_at (by omega))
/-! ### promises -/
def spIsStand (K : PySem.W.Frag) : Sp := fun vs H Q _ => ∃ (x : Addr) (y : V) (n : Nat) (ts : List (Int × Int)) (rs : List (List Int)) (st : List Int), vs = [.ref x, y] ∧ YObj K H x n ts rs ∧ RowAt K H y st ∧ st.length = n ∧ n ≤ 1000 ∧ (∀ z ∈ st, 0 ≤ z) ∧ ∀ H', Same H H' → Q (.bl true) H'
def spCanBe (K : PySem.W.Frag) : Sp := fun vs H Q _ => ∃ (s : Addr) (y : V) (n : Nat) (ts : List (Int × Int)) (rs : List (List Int)) (st : List Int) (m : Mv), vs = [.ref s, y] ∧ SqA K H s (st.map V.int) ∧ st.length = n ∧ MvAt K H y m ∧ CanMv n ts rs st m ∧ Q (.bl true) H
def spBehind (K : PySem.W.Frag) : Sp := fun vs H Q _ => ∃ (x s : Addr) (y : V) (n : Nat) (ts : List (Int × Int)) (rs : List (List Int)) (st : List Int) (m : Mv), vs = [.ref x, .ref s, y] ∧ YObj K H x n ts rs ∧ n ≤ 1000 ∧ (∀ r ∈ rs, RingOk n r) ∧ SqA K H s (st.map V.int) ∧ st.length = n ∧ MvAt K H y m ∧ CanMv n ts rs st m ∧
  ∀ l H', H' l = some (.lst ((stepMv rs st m).map V.int)) → Same H H' → Q (.ref l) H'
theorem can_in {n : Nat} {ts : List (Int × Int)} {rs : List (List Int)} {st : List Int} {m : Mv} (h : CanMv n ts rs st m) : MvIn ts rs m := by
  cases m with
  | slide a b => exact h.1
  | turn k => exact h
theorem can_get {n : Nat} {ts : List (Int × Int)} {rs : List (List Int)} {m : Mv} : ∀ {ms : List Mv} {st : List Int} {i : Nat}, CanAll n ts rs st ms → ms[i]? = some m → CanMv n ts rs (playMvs rs st (ms.take i)) m
  | [], _, _, _, h => by simp at h
  | a :: l, st, 0, c, h => by cases Option.some.inj h; exact c.1
  | a :: l, st, i + 1, c, h => can_get (ms := l) (st := stepMv rs st a) (i := i) c.2 h
structure TPl (K : PySem.W.Frag) (mg : Str → Option Value) (fInt fRow fIsS fMove fCan fBeh fAll fCnt : Addr) : Prop where
  i : TI0 mg
  len : mg "len" = none
  all : mg "all" = none
  enum : mg "enumerate" = none
  gInt : mg "is_integer" = some (.ref fInt)
  gRow : mg "is_row" = some (.ref fRow)
  gIsS : mg "is_stand_row" = some (.ref fIsS)
  gMove : mg "is_move" = some (.ref fMove)
  gCan : mg "can_be_made" = some (.ref fCan)
  gBeh : mg "behind_move" = some (.ref fBeh)
  gAll : mg "behind_all" = some (.ref fAll)
  gCnt : mg "is_count" = some (.ref fCnt)
section
variable {P : Program} {w : World} {K : PySem.W.Frag} {mg : Str → Option Value} {base : Heap} {fInt fRow fIsS fMove fCan fBeh fAll fCnt : Addr}
theorem scBehind : FnScope ["yard", "stand", "move", "behind", "ring", "index", "place"] ["yard", "stand", "move"] (defScope sBehind) := ⟨rfl, rfl, rfl, by decide +kernel, rfl, by decide +kernel, by decide +kernel⟩
/-- what a move's making asks of built-in names -/
structure TBh (mg : Str → Option Value) : Prop where
  i : TI0 mg
  enum : mg "enumerate" = none
theorem ok_behind {f : Addr} {fd : FuncData} (F : Fun K "behind_move" "behind_move" sBehind f fd) (T : TBh mg) : FnOk P w K mg base CX0 1 f fd ["yard", "stand", "move"] (spBehind K) := by
  refine F.ok scBehind (fun vs H Q E h => ?_) (fun cdv A outer s H vs Q E hr h => ?_)
  · obtain ⟨x, s, y, n, ts, rs, st, m, rfl, _⟩ := h
    rfl
  · obtain ⟨x, s, y, n, ts, rs, st, m, rfl, hy, n1000, rok, hs, hst, ⟨b, rfl, hm⟩, can, k⟩ := h
    refine ⟨_, pss_cons (ps_set (i := 3) scBehind.nd rfl (Or.inl rfl) (pe_callTy call_list_of (by rfl) T.i.list (by decide +kernel) (pa_cons (pv 1) pa_nil)))
      (pss_cons (ps_if (pt_cmpR op_eq (pe_ix ix_tup (pv 2) pe_int (fun _ _ => rfl)) pe_str (nomark _))
        (pss_cons (ps_asg pe_int (pg_sub (pv 3) (pe_ix ix_tup (pv 2) pe_int (fun _ _ => rfl)) set_list))
        (pss_cons (ps_asg (pe_ix ix_any (pv 1) (pe_ix ix_tup (pv 2) pe_int (fun _ _ => rfl)) (fun _ _ => rfl)) (pg_sub (pv 3) (pe_ix ix_tup (pv 2) pe_int (fun _ _ => rfl)) set_list))
        (pss_one (ps_ret (pv 3))))) pss_nil)
      (pss_cons (ps_set (i := 4) scBehind.nd rfl (Or.inl rfl) (pe_ix ix_tup (pe_fld (pv 0) rfl) (pe_ix ix_tup (pv 2) pe_int (fun _ _ => rfl)) (fun _ _ => rfl)))
      (pss_cons (ps_for PassesOwn.never rfl (pi_enumV (by rfl) T.enum (pv 4)) (pg_tup rfl (pgs_cons (pg_name (i := 5) scBehind.nd rfl (Or.inl rfl)) (pgs_cons (pg_name (i := 6) scBehind.nd rfl (Or.inl rfl)) pgs_nil)))
        (pss_one (ps_asg (pe_ix ix_any (pv 1) (pe_ix ix_tup (pv 4) (pe_op op_sub (pv 5) pe_int) (fun _ _ => rfl)) (fun _ _ => rfl)) (pg_sub (pv 3) (pv 6) set_list))))
      (pss_one (ps_ret (pv 3)))))), ?_⟩
    obtain ⟨C, dx, a, e, fs, tys, zs, hx, yc, lp, lt, lr, ha, pa, he, pe⟩ := id hy
    refine ⟨_, rfl, s, _, rfl, hs, fun g ng => ?_⟩
    have s1 := Same.new (o := .lst (st.map V.int)) ng
    have hm1 := Same.seqT s1 hm
    have hs1 := Same.seqA s1 hs
    cases m with
    | slide u v =>
      obtain ⟨_, ⟨a0, a1, b0, b1, _⟩, gu, gv⟩ := can
      have la : u.toNat < st.length := by have : u < n := a1; have : (0 : Int) ≤ u := a0; omega
      have lb : v.toNat < st.length := by have : v < n := b1; have : (0 : Int) ≤ v := b0; omega
      refine ⟨_, rfl, b, _, 0, _, rfl, rfl, hm1, atI_nat (j := 0) rfl, rfl, _, rfl, iteT ?_⟩
      refine ⟨_, rfl, _, rfl, b, _, 1, _, rfl, rfl, hm1, atI_nat (j := 1) rfl, g, _, u, u.toNat, rfl, rfl, upd_same, by rw [List.length_map]; exact ixN_ok a0 (by rw [hst]; exact a1), ?_⟩
      rw [upd_upd]
      have s2 := Same.new (o := .lst ((st.map V.int).set u.toNat (.int 0))) ng
      have hm2 := Same.seqT s2 hm
      refine ⟨_, rfl, _, rfl, b, _, 1, _, rfl, rfl, hm2, atI_nat (j := 1) rfl, s, _, u, _, rfl, rfl, Same.seqA s2 hs, atI_st a0 (by rw [hst]; exact a1), ?_⟩
      refine ⟨_, rfl, _, rfl, b, _, 2, _, rfl, rfl, hm2, atI_nat (j := 2) rfl, g, _, v, v.toNat, rfl, rfl, upd_same, by rw [List.length_set, List.length_map]; exact ixN_ok b0 (by rw [hst]; exact b1), ?_⟩
      rw [upd_upd, map_set, map_set]
      exact ⟨_, rfl, k g _ upd_same (Same.new ng)⟩
    | turn kk =>
      obtain ⟨k0', k1'⟩ : 0 ≤ kk ∧ kk < rs.length := can
      obtain ⟨g2, rr, eg, erg, hg, hlg⟩ := ring_at pe k0' k1'
      have ok := rok rr (List.mem_of_getElem? erg)
      refine ⟨_, rfl, b, _, 0, _, rfl, rfl, hm1, atI_nat (j := 0) rfl, rfl, _, rfl, iteF ?_⟩
      refine ⟨_, rfl, x, C, dx, fs, _, rfl, s1 _ _ hx, yc.c, yc.r, lr, ?_⟩
      refine ⟨_, rfl, b, _, 1, _, rfl, rfl, hm1, atI_nat (j := 1) rfl, ?_⟩
      refine ⟨e, zs, kk, _, rfl, rfl, Same.seqT s1 he, atI_int k0' eg, ?_⟩
      refine ⟨g2, rr.map V.int, H, rfl, .inr hg, .of_same s1, fun J G w1 hG => ?_⟩
      refine for_it w1 (fun i σ H' => ∃ (v5 v6 : Option V), σ = [some (.ref x), some (.ref s), some (.ref b), some (.ref g), some (.ref g2), v5, v6] ∧ H' g = some (.lst ((turnP rr st i).map V.int)) ∧ Same H H')
        ⟨none, none, rfl, upd_same, s1⟩ (fun i σ H' _ ⟨_, _, _, _, s⟩ => hG H' (.of_same s)) ?_ ?_
      · rintro i v σ H2 H3 hi ⟨v5, v6, rfl, eg2, s2⟩ ⟨T1, u, y, rfl, nT, rfl, e1, e2⟩
        cases Option.some.inj e1
        rw [List.length_map] at hi
        have hy2 := e2.symm.trans (getD_at hi)
        cases Option.some.inj hy2
        have s3 := s2.trans (Same.new (o := .tup [.int (i : Nat), .int (rr.getD i 0)]) nT)
        have eg3 := Same.new nT (o := .tup [.int (i : Nat), .int (rr.getD i 0)]) _ _ eg2
        have b1 := ok.2.1 _ (getD_mem hi)
        have b2 := ok.2.1 _ (getD_mem (prevI_lt hi))
        refine ⟨T1, _, rfl, SqT.of upd_same, rfl, _, _, rfl, _, _, rfl, rfl, ?_⟩
        refine ⟨_, rfl, _, rfl, _, rfl, _, _, rfl, rfl, g2, _, _, _, rfl, rfl, Same.seqT s3 hg, atI_prev hi, ?_⟩
        refine ⟨s, _, _, _, rfl, rfl, Same.seqA s3 hs, atI_st b2.1 (by rw [hst]; exact b2.2), ?_⟩
        refine ⟨_, rfl, _, rfl, g, _, _, (rr.getD i 0).toNat, rfl, rfl, eg3, by rw [List.length_map, turnP_len, hst]; exact ixN_ok b1.1 b1.2, ?_⟩
        refine ⟨_, _, rfl, ?_, Same.upd_new s3 ng⟩
        rw [upd_same, map_set, turnP_succ]
        rfl
      · rintro σ H2 ⟨v5, v6, rfl, eg2, s2⟩
        rw [List.length_map, turnP_eq ok hst] at eg2
        refine ⟨_, rfl, k g H2 ?_ s2⟩
        rw [eg2]
        show some (HO.lst ((turnTo rr st rr.length).map V.int)) = some (HO.lst ((turnTo (rs.getD kk.toNat []) st (rs.getD kk.toNat []).length).map V.int))
        rw [List.getD_eq_getElem?_getD, erg]
        rfl
end
end Y
set_option Elab.async false
set_option linter.all false
set_option maxRecDepth 100000
set_option maxHeartbeats 4000000
namespace Y
open PySem L2
/-! ### moves and ints as data -/
def mvD : Mv → PyData
  | .slide a b => .tuple [.str "slide", .int a, .int b]
  | .turn k => .tuple [.str "turn", .int k]
theorem mv_dp {K : PySem.W.Frag} {H : Hp} {y : V} {m : Mv} (h : MvAt K H y m) : Dp K H y (mvD m) := by
  obtain ⟨b, rfl, h⟩ := h
  cases m with
  | slide u v => exact .tup h (.cons (.str _) (.cons (.int _) (.cons (.int _) .nil)))
  | turn k => exact .tup h (.cons (.str _) (.cons (.int _) .nil))
theorem mvs_dp {K : PySem.W.Frag} {H : Hp} {ys : List V} {ms : List Mv} (h : MvsAt K H ys ms) : DpAll K H ys (ms.map mvD) := by
  induction h with
  | nil => exact .nil
  | cons a _ ih => exact .cons (mv_dp a) ih
theorem mv_self (m : Mv) : PyData.eqv (mvD m) (mvD m) = true := by cases m <;> simp [mvD, PyData.eqv, PyData.eqvAll]
theorem mvs_self : ∀ ms : List Mv, PyData.eqvAll (ms.map mvD) (ms.map mvD) = true
  | [] => rfl
  | m :: ms => by
    rw [List.map_cons]
    show (PyData.eqv (mvD m) (mvD m) && PyData.eqvAll (ms.map mvD) (ms.map mvD)) = true
    rw [mv_self, mvs_self ms]
    rfl
theorem mv_lay (m : Mv) : (mvD m).canLay0 = true := by cases m <;> simp [mvD, PyData.canLay0, PyData.canLayAll0] <;> decide +kernel
theorem mvs_lay : ∀ ms : List Mv, PyData.canLayAll0 (ms.map mvD) = true
  | [] => rfl
  | m :: ms => by
    rw [List.map_cons]
    show ((mvD m).canLay0 && PyData.canLayAll0 (ms.map mvD)) = true
    rw [mv_lay, mvs_lay ms]
    rfl
theorem mv_depth (m : Mv) : (mvD m).depth ≤ 10 := by cases m <;> simp [mvD, PyData.depth, PyData.depthAll]
theorem mvs_depth : ∀ ms : List Mv, PyData.depthAll (ms.map mvD) ≤ 10
  | [] => Nat.zero_le _
  | m :: ms => by
    rw [List.map_cons]
    exact Nat.max_le.mpr ⟨mv_depth m, mvs_depth ms⟩
theorem mvs_shaped (ms : List Mv) : SeqAt.shaped (.tuple (ms.map mvD)) = true := by
  unfold SeqAt.shaped
  have h1 : (PyData.tuple (ms.map mvD)).canLay0 = true := mvs_lay ms
  have h2 : (PyData.tuple (ms.map mvD)).depth ≤ 64 := Nat.le_trans (Nat.succ_le_succ (mvs_depth ms)) (by decide)
  rw [h1, decide_eq_true h2]
  rfl
theorem mvs_shapedL (ms : List Mv) : SeqAt.shaped (.list (ms.map mvD)) = true := by
  unfold SeqAt.shaped
  have h1 : (PyData.list (ms.map mvD)).canLay0 = true := mvs_lay ms
  have h2 : (PyData.list (ms.map mvD)).depth ≤ 64 := Nat.le_trans (Nat.succ_le_succ (mvs_depth ms)) (by decide)
  rw [h1, decide_eq_true h2]
  rfl
/-- what taking back tells, as data -/
def tkD : Option (List Mv) → PyData
  | none => .none
  | some bs => .tuple (bs.map mvD)
theorem tk_dp {K : PySem.W.Frag} {H : Hp} {v : V} {o : Option (List Mv)} (h : TkAt K H v o) : Dp K H v (tkD o) := by
  cases o with
  | none => rw [show v = .non from h]; exact .non
  | some bs =>
    obtain ⟨t, ws, rfl, h1, h2⟩ := h
    exact .tup h1 (mvs_dp h2)
theorem tk_shaped (o : Option (List Mv)) : SeqAt.shaped (tkD o) = true := by
  cases o with
  | none => rfl
  | some bs => exact mvs_shaped bs
theorem tk_self (o : Option (List Mv)) : PyData.eqv (tkD o) (tkD o) = true := by
  cases o with
  | none => rfl
  | some bs => exact mvs_self bs
/-! ints -/
theorem ints_dp {K : PySem.W.Frag} {H : Hp} : ∀ ns : List Int, DpAll K H (ns.map V.int) (ns.map PyData.int)
  | [] => .nil
  | n :: ns => .cons (.int n) (ints_dp ns)
theorem ints_self : ∀ ns : List Int, PyData.eqvAll (ns.map PyData.int) (ns.map PyData.int) = true
  | [] => rfl
  | n :: ns => by
    show ((n == n) && PyData.eqvAll (ns.map PyData.int) (ns.map PyData.int)) = true
    rw [ints_self ns, beq_self_eq_true]
    rfl
theorem ints_shaped (ns : List Int) : SeqAt.shaped (.tuple (ns.map PyData.int)) = true := by
  have lay : ∀ ns : List Int, PyData.canLayAll0 (ns.map PyData.int) = true := fun ns => by
    induction ns with
    | nil => rfl
    | cons n ns ih => show (true && PyData.canLayAll0 (ns.map PyData.int)) = true; rw [ih]; rfl
  have dep : ∀ ns : List Int, PyData.depthAll (ns.map PyData.int) ≤ 0 := fun ns => by
    induction ns with
    | nil => exact Nat.le_refl _
    | cons n ns ih => exact Nat.max_le.mpr ⟨Nat.le_refl _, ih⟩
  unfold SeqAt.shaped
  have h1 : (PyData.tuple (ns.map PyData.int)).canLay0 = true := lay ns
  have h2 : (PyData.tuple (ns.map PyData.int)).depth ≤ 64 := Nat.le_trans (Nat.succ_le_succ (dep ns)) (by decide)
  rw [h1, decide_eq_true h2]
  rfl
/-! what is played stays from 0 on -/
theorem gAt_pos {st : List Int} (h : ∀ z ∈ st, 0 ≤ z) (i : Int) : 0 ≤ gAt st i := by
  unfold gAt
  rw [List.getD_eq_getElem?_getD]
  cases e : st[i.toNat]? with
  | none => exact Int.le_refl 0
  | some z => exact h z (List.mem_of_getElem? e)
theorem set_pos {st : List Int} {i : Nat} {v : Int} (h : ∀ z ∈ st, 0 ≤ z) (hv : 0 ≤ v) : ∀ z ∈ st.set i v, 0 ≤ z := fun z hz => by
  rcases List.mem_or_eq_of_mem_set hz with hz | rfl
  · exact h z hz
  · exact hv
theorem turnTo_pos {r st : List Int} (h : ∀ z ∈ st, 0 ≤ z) : ∀ m, ∀ z ∈ turnTo r st m, 0 ≤ z
  | 0 => h
  | m + 1 => by rw [turnTo_succ]; exact set_pos (turnTo_pos h m) (gAt_pos h _)
theorem step_pos {rs : List (List Int)} {st : List Int} {m : Mv} (h : ∀ z ∈ st, 0 ≤ z) : ∀ z ∈ stepMv rs st m, 0 ≤ z := by
  cases m with
  | slide a b => exact set_pos (set_pos h (Int.le_refl 0)) (gAt_pos h _)
  | turn k => exact turnTo_pos h _
theorem play_pos {rs : List (List Int)} : ∀ {ms : List Mv} {st : List Int}, (∀ z ∈ st, 0 ≤ z) → ∀ z ∈ playMvs rs st ms, 0 ≤ z
  | [], _, h => h
  | m :: ms, st, h => play_pos (ms := ms) (st := stepMv rs st m) (step_pos h)
theorem can_mvIn {n : Nat} {ts : List (Int × Int)} {rs : List (List Int)} : ∀ {ms : List Mv} {st : List Int}, CanAll n ts rs st ms → ∀ m ∈ ms, MvIn ts rs m
  | [], _, _, m, h => by cases h
  | a :: l, st, c, m, h => by
    rcases List.mem_cons.mp h with rfl | h
    · exact can_in c.1
    · exact can_mvIn (ms := l) (st := stepMv rs st a) c.2 m h
theorem mvIn_ok {ts : List (Int × Int)} {rs : List (List Int)} {m : Mv} (h : MvIn ts rs m) : MvOk rs m := by
  cases m with
  | slide a b => trivial
  | turn k => exact h
theorem all_mvIn {ts : List (Int × Int)} {rs : List (List Int)} {m : Mv} (h : m ∈ allMoves ts rs) : MvIn ts rs m := by
  unfold allMoves turns at h
  rcases List.mem_append.mp h with h | h
  · obtain ⟨t, ht, rfl⟩ := List.mem_map.mp h
    exact ht
  · obtain ⟨k, hk, rfl⟩ := List.mem_map.mp h
    rw [List.mem_range] at hk
    exact ⟨by omega, by omega⟩
end Y
set_option Elab.async false
set_option linter.all false
set_option maxRecDepth 100000
set_option maxHeartbeats 4000000
namespace Y
open PySem PySem.Spec PyProof.Rows L2
/-! ### is a row of numbers a tie? -/
def rowD (ns : List Int) : PyData := .tuple (ns.map PyData.int)
theorem eqv_ints : ∀ (ns ms : List Int), PyData.eqvAll (ns.map PyData.int) (ms.map PyData.int) = decide (ns = ms)
  | [], [] => by simp [PyData.eqvAll]
  | [], _ :: _ => by simp [PyData.eqvAll]
  | _ :: _, [] => by simp [PyData.eqvAll]
  | a :: ns, b :: ms => by
    rw [List.map_cons, List.map_cons, PyData.eqvAll, eqv_ints ns ms, Bool.eq_iff_iff]
    simp [PyData.eqv]
theorem any_row (ts : List (Int × Int)) (ns : List Int) : (ts.map tieD).any (fun y => PyData.eqv y (rowD ns)) = decide (∃ t ∈ ts, [t.1, t.2] = ns) := by
  rw [List.any_map, Bool.eq_iff_iff, List.any_eq_true, decide_eq_true_iff]
  have e : ∀ t : Int × Int, PyData.eqv (tieD t) (rowD ns) = decide ([t.1, t.2] = ns) := fun t => by
    have q := eqv_ints [t.1, t.2] ns
    simp only [tieD, rowD, PyData.eqv]
    exact q
  constructor
  · rintro ⟨t, h, q⟩
    exact ⟨t, h, of_decide_eq_true ((e t).symm.trans q)⟩
  · rintro ⟨t, h, q⟩
    exact ⟨t, h, (e t).trans (decide_eq_true q)⟩
theorem lay_ints : ∀ ns : List Int, PyData.canLayAll0 (ns.map PyData.int) = true
  | [] => rfl
  | n :: ns => by simp only [List.map_cons, PyData.canLayAll0, lay_ints ns, PyData.canLay0, Bool.and_self]
theorem depth_ints : ∀ ns : List Int, PyData.depthAll (ns.map PyData.int) ≤ 1
  | [] => by simp [PyData.depthAll]
  | n :: ns => by
    have := depth_ints ns
    simp only [List.map_cons, PyData.depthAll, PyData.depth]
    omega
def rRowIn (K : PySem.W.Frag) : R2 := fun x y H Q => ∃ (a p : Addr) (ys : List V) (ts : List (Int × Int)) (ns : List Int), y = .ref a ∧ SqT K H a ys ∧ Paired (TieAt K H) ys ts ∧ x = .ref p ∧ SqT K H p (ns.map V.int) ∧ Q (.bl (decide (∃ t ∈ ts, [t.1, t.2] = ns))) H
theorem op_rowIn {X : Cx} (hu : X.A.units + 64 < cLine) : OpR X (compareOp .In) (rRowIn X.K) := by
  intro pins s σ H x y v u Q I rx ry h
  obtain ⟨a, p, ys, ts, ns, rfl, ha, hp, rfl, hs, q⟩ := h
  obtain ⟨as, r1⟩ := Dp.reads I (rowD ns) _ v (.tup hs (ints_dp ns)) rx
  obtain ⟨bs, r2⟩ := Dp.reads I (.tuple (ts.map tieD)) (.ref a) u (.tup ha (ties_dp hp)) ry
  have d1 : (rowD ns).depth ≤ 10 := by
    have := depth_ints ns
    simp only [rowD, PyData.depth]
    omega
  exact SeqAt.in_tuple_reads r2 r1 (lay_ties ts) (by simp only [rowD, PyData.canLay0]; exact lay_ints ns) (by have := Nat.min_le_right (PyData.depthAll (ts.map tieD)) (rowD ns).depth; omega) ⟨.bl _, H, I, rfl, by rw [any_row]; exact q⟩
/-! ### any data: is it a move? -/
def IsMv (ts : List (Int × Int)) (rs : List (List Int)) (d : PyData) : Prop := ∃ m, d = mvD m ∧ MvIn ts rs m
def fI : V → V
  | .int _ => .bl true
  | _ => .bl false
theorem fI_dq {K : PySem.W.Frag} {H : Hp} {d : PyData} {v : V} (h : Dq K H d v) : fI v = .bl (isI d) := by cases h <;> rfl
theorem fI_dqs {K : PySem.W.Frag} {H : Hp} : ∀ {ds : List PyData} {xs : List V}, Dqs K H ds xs → xs.map fI = (ds.map isI).map V.bl
  | _, _, .nil => rfl
  | _, _, .cons h t => by rw [List.map_cons, fI_dq h, fI_dqs t]; rfl
theorem all_ints {K : PySem.W.Frag} {H : Hp} : ∀ {ds : List PyData} {xs : List V}, Dqs K H ds xs → (ds.map isI).all id = true → ∃ ns : List Int, ds = ns.map PyData.int ∧ xs = ns.map V.int
  | _, _, .nil, _ => ⟨[], rfl, rfl⟩
  | _, _, .cons h t, a => by
    rw [List.map_cons, List.all_cons, Bool.and_eq_true] at a
    obtain ⟨ns, e1, e2⟩ := all_ints t a.2
    cases h with
    | int i => exact ⟨i :: ns, by rw [e1]; rfl, by rw [e2]; rfl⟩
    | _ => exact absurd a.1 (by simp [isI])
theorem dqs_len {K : PySem.W.Frag} {H : Hp} : ∀ {ds : List PyData} {xs : List V}, Dqs K H ds xs → xs.length = ds.length
  | _, _, .nil => rfl
  | _, _, .cons _ t => by rw [List.length_cons, List.length_cons, dqs_len t]
theorem dqs_get {K : PySem.W.Frag} {H : Hp} : ∀ {ds : List PyData} {xs : List V}, Dqs K H ds xs → ∀ {i : Nat} {x : V}, xs[i]? = some x → ∃ d, ds[i]? = some d ∧ Dq K H d x
  | _, _, .nil, i, x, h => by simp at h
  | _, _, .cons h t, 0, x, e => by cases Option.some.inj e; exact ⟨_, rfl, h⟩
  | _, _, .cons h t, i + 1, x, e => dqs_get t (i := i) e
mutual
theorem Dq.kp {K : PySem.W.Frag} {H H' : Hp} (s : Same H H') : ∀ {d : PyData} {v : V}, Dq K H d v → Dq K H' d v
  | _, _, .non => .non
  | _, _, .bl b => .bl b
  | _, _, .int i => .int i
  | _, _, .str x => .str x
  | _, _, .lst h t => .lst (s.seq h) (Dqs.kp s t)
  | _, _, .tup h t => .tup (Same.seqT s h) (Dqs.kp s t)
  | _, _, .dct e => .dct (s _ _ e)
theorem Dqs.kp {K : PySem.W.Frag} {H H' : Hp} (s : Same H H') : ∀ {ds : List PyData} {vs : List V}, Dqs K H ds vs → Dqs K H' ds vs
  | _, _, .nil => .nil
  | _, _, .cons h t => .cons (Dq.kp s h) (Dqs.kp s t)
end
def spIsMoveD (K : PySem.W.Frag) : Sp := fun vs H Q _ => ∃ (x : Addr) (y : V) (n : Nat) (ts : List (Int × Int)) (rs : List (List Int)) (d : PyData), vs = [.ref x, y] ∧ YObj K H x n ts rs ∧ Dq K H d y ∧ (∀ ds, d = .tuple ds → ds.length ≤ 100) ∧ ∀ H' b, Same H H' → (b = true ↔ IsMv ts rs d) → Q (.bl b) H'
theorem not_mv {ts : List (Int × Int)} {rs : List (List Int)} {d : PyData} (h : ∀ m, d ≠ mvD m) : (false = true ↔ IsMv ts rs d) := ⟨fun z => (Bool.false_ne_true z).elim, fun ⟨m, e, _⟩ => (h m e).elim⟩
section
variable {P : Program} {w : World} {K : PySem.W.Frag} {mg : Str → Option Value} {base : Heap} {fInt : Addr}
end
end Y
set_option Elab.async false
set_option linter.all false
set_option maxRecDepth 100000
set_option maxHeartbeats 4000000
namespace Y
open PySem L2
/-! ### rows of data as moves -/
/-- whether a move of the yard can be made -/
def canB (st : List Int) : Mv → Bool
  | .slide a b => canSlide st (a, b)
  | .turn _ => true
theorem mvD_inj {m m' : Mv} (h : mvD m = mvD m') : m = m' := by
  cases m with
  | slide a b =>
    cases m' with
    | slide c d =>
      injection h with h
      injection h with _ h
      injection h with h1 h
      injection h with h2 _
      injection h1 with h1
      injection h2 with h2
      rw [h1, h2]
    | turn c =>
      injection h with h
      injection h with h _
      injection h with h
      exact absurd h (by decide +kernel)
  | turn a =>
    cases m' with
    | slide c d =>
      injection h with h
      injection h with h _
      injection h with h
      exact absurd h (by decide +kernel)
    | turn c =>
      injection h with h
      injection h with _ h
      injection h with h1 _
      injection h1 with h1
      rw [h1]
open Classical in
/-- the stand behind a data, if it is a move and can be made -/
noncomputable def stepD (ts : List (Int × Int)) (rs : List (List Int)) (st : List Int) (d : PyData) : Option (List Int) :=
  if h : ∃ m, d = mvD m ∧ MvIn ts rs m ∧ canB st m = true then some (stepMv rs st h.choose) else none
theorem stepD_some {ts : List (Int × Int)} {rs : List (List Int)} {st : List Int} {d : PyData} {m : Mv} (e : d = mvD m) (hin : MvIn ts rs m) (hc : canB st m = true) : stepD ts rs st d = some (stepMv rs st m) := by
  have h : ∃ m, d = mvD m ∧ MvIn ts rs m ∧ canB st m = true := ⟨m, e, hin, hc⟩
  unfold stepD
  rw [dif_pos h]
  have := mvD_inj (h.choose_spec.1.symm.trans e)
  rw [this]
theorem stepD_none {ts : List (Int × Int)} {rs : List (List Int)} {st : List Int} {d : PyData} (h : ∀ m, d = mvD m → MvIn ts rs m → canB st m = false) : stepD ts rs st d = none := by
  unfold stepD
  refine dif_neg fun ⟨m, e, hin, hc⟩ => ?_
  rw [h m e hin] at hc
  cases hc
/-- a row of data played: the first wrong one's number, or the stand behind all -/
noncomputable def runD (ts : List (Int × Int)) (rs : List (List Int)) : Nat → List Int → List PyData → Nat ⊕ List Int
  | _, st, [] => .inr st
  | i, st, d :: ds => match stepD ts rs st d with
    | some st' => runD ts rs (i + 1) st' ds
    | none => .inl i
theorem runD_cons_some {ts : List (Int × Int)} {rs : List (List Int)} {i : Nat} {st st' : List Int} {d : PyData} {ds : List PyData} (h : stepD ts rs st d = some st') : runD ts rs i st (d :: ds) = runD ts rs (i + 1) st' ds := by
  show (match stepD ts rs st d with | some st' => runD ts rs (i + 1) st' ds | none => .inl i) = _
  rw [h]
theorem runD_cons_none {ts : List (Int × Int)} {rs : List (List Int)} {i : Nat} {st : List Int} {d : PyData} {ds : List PyData} (h : stepD ts rs st d = none) : runD ts rs i st (d :: ds) = .inl i := by
  show (match stepD ts rs st d with | some st' => runD ts rs (i + 1) st' ds | none => .inl i) = _
  rw [h]
theorem canB_of {n : Nat} {ts : List (Int × Int)} {rs : List (List Int)} {st : List Int} {m : Mv} (h : CanMv n ts rs st m) : canB st m = true := by
  cases m with
  | slide a b =>
    show (decide (0 < gAt st a) && decide (gAt st b = 0)) = true
    rw [decide_eq_true h.2.2.1, decide_eq_true h.2.2.2]
    rfl
  | turn k => rfl
theorem can_of {n : Nat} {ts : List (Int × Int)} {rs : List (List Int)} {st : List Int} {m : Mv} (tok : ∀ t ∈ ts, TieOk n t) (hin : MvIn ts rs m) (h : canB st m = true) : CanMv n ts rs st m := by
  cases m with
  | slide a b =>
    have h' : (decide (0 < gAt st a) && decide (gAt st b = 0)) = true := h
    rw [Bool.and_eq_true, decide_eq_true_iff, decide_eq_true_iff] at h'
    exact ⟨hin, tok _ hin, h'.1, h'.2⟩
  | turn k => exact hin
/-- right moves that can all be made -/
theorem runD_mvs {n : Nat} {ts : List (Int × Int)} {rs : List (List Int)} : ∀ {ms : List Mv} {st : List Int} {i : Nat}, CanAll n ts rs st ms → runD ts rs i st (ms.map mvD) = .inr (playMvs rs st ms)
  | [], _, _, _ => rfl
  | m :: ms, st, i, h => (runD_cons_some (stepD_some rfl (can_in h.1) (canB_of h.1))).trans (runD_mvs h.2)
theorem runD_app {n : Nat} {ts : List (Int × Int)} {rs : List (List Int)} {ds : List PyData} : ∀ {ms : List Mv} {st : List Int} {i : Nat}, CanAll n ts rs st ms → runD ts rs i st (ms.map mvD ++ ds) = runD ts rs (i + ms.length) (playMvs rs st ms) ds
  | [], _, _, _ => rfl
  | m :: ms, st, i, h => (runD_cons_some (stepD_some rfl (can_in h.1) (canB_of h.1))).trans ((runD_app h.2).trans (by rw [List.length_cons, Nat.add_assoc, Nat.add_comm 1]; rfl))
theorem mv_dq {K : PySem.W.Frag} {H : Hp} {y : V} {m : Mv} (h : MvAt K H y m) : Dq K H (mvD m) y := by
  obtain ⟨b, rfl, h⟩ := h
  cases m with
  | slide u v => exact .tup h (.cons (.str _) (.cons (.int _) (.cons (.int _) .nil)))
  | turn k => exact .tup h (.cons (.str _) (.cons (.int _) .nil))
theorem mvs_dq {K : PySem.W.Frag} {H : Hp} {ys : List V} {ms : List Mv} (h : MvsAt K H ys ms) : Dqs K H (ms.map mvD) ys := by
  induction h with
  | nil => exact .nil
  | cons a _ ih => exact .cons (mv_dq a) ih
theorem dq_mv {K : PySem.W.Frag} {H : Hp} {y : V} {m : Mv} {d : PyData} (h : Dq K H d y) (e : d = mvD m) : MvAt K H y m := by
  subst e
  cases m with
  | slide u v =>
    cases h with
    | tup hs hd =>
      cases hd with
      | cons a hd => cases a; cases hd with
        | cons a hd => cases a; cases hd with
          | cons a hd => cases a; cases hd; exact ⟨_, rfl, hs⟩
  | turn u =>
    cases h with
    | tup hs hd =>
      cases hd with
      | cons a hd => cases a; cases hd with
        | cons a hd => cases a; cases hd; exact ⟨_, rfl, hs⟩
/-! ### can_be_made of any move of the yard -/
def spCanB (K : PySem.W.Frag) : Sp := fun vs H Q _ => ∃ (s : Addr) (y : V) (n : Nat) (ts : List (Int × Int)) (rs : List (List Int)) (st : List Int) (m : Mv), vs = [.ref s, y] ∧ SqA K H s (st.map V.int) ∧ st.length = n ∧ (∀ t ∈ ts, TieOk n t) ∧ (∀ z ∈ st, 0 ≤ z) ∧ MvAt K H y m ∧ MvIn ts rs m ∧ Q (.bl (canB st m)) H
section
variable {P : Program} {w : World} {K : PySem.W.Frag} {mg : Str → Option Value} {base : Heap} {fInt fRow fIsS fMove fCan fBeh fAll fCnt CM fI : Addr}
/-! ### the error of a move -/
structure XMv (K : PySem.W.Frag) (mg : Str → Option Value) (C fI : Addr) : Prop where
  g : mg "BadMove" = some (.ref C)
  xc : XcC K C
  i : PySem.W.findIn K (.ref C) "__init__" = some (some (.ref fI))
  t : PySem.W.typeIn K (.ref fI) = some (.type "function")
  n : PySem.W.findIn K (.ref C) "index" = some none
/-- what is raised: an error of the class at C, its index i -/
def RaisedI (C : Addr) (i : Nat) (H : Hp) (E : XK) : Prop := ∀ (d : Addr) (H' : Hp), Same H H' → H' d = some (.xd [("index", .int (i : Nat))]) → E (.ref C) (some d) H'
end
end Y
set_option Elab.async false
set_option linter.all false
set_option maxRecDepth 100000
set_option maxHeartbeats 4000000
namespace Y
open PySem L2
/-! ### rows of moves played, whatever they are -/
structure DRow (K : PySem.W.Frag) (H : Hp) (l : Addr) (ds : List PyData) : Prop where
  ex : ∃ ys, SqA K H l ys ∧ Dqs K H ds ys
  small : ∀ d ∈ ds, ∀ es, d = .tuple es → es.length ≤ 100
structure StOk (n : Nat) (ts : List (Int × Int)) (rs : List (List Int)) (st : List Int) : Prop where
  n1000 : n ≤ 1000
  rok : ∀ r ∈ rs, RingOk n r
  tok : ∀ t ∈ ts, TieOk n t
  len : st.length = n
  pos : ∀ z ∈ st, 0 ≤ z
def spAllX (K : PySem.W.Frag) (CM : Addr) : Sp := fun vs H Q E => ∃ (x s l : Addr) (n : Nat) (ts : List (Int × Int)) (rs : List (List Int)) (st : List Int) (ds : List PyData), vs = [.ref x, .ref s, .ref l] ∧ YObj K H x n ts rs ∧ StOk n ts rs st ∧ SqA K H s (st.map V.int) ∧ DRow K H l ds ∧
  (∀ st', runD ts rs 0 st ds = .inr st' → ∀ t H', SqT K H' t (st'.map V.int) → (SqL K H s (st.map V.int) → PlT H' t) → Same H H' → Q (.ref t) H') ∧ (∀ i, runD ts rs 0 st ds = .inl i → ∀ H', Same H H' → RaisedI CM i H' E)
theorem drop_get {α : Type} : ∀ {l : List α} {i : Nat} {x : α}, l[i]? = some x → l.drop i = x :: l.drop (i + 1)
  | [], i, x, h => by simp at h
  | a :: l, 0, x, h => by cases Option.some.inj h; rfl
  | a :: l, i + 1, x, h => drop_get (l := l) (i := i) (x := x) h
section
variable {P : Program} {w : World} {K : PySem.W.Frag} {mg : Str → Option Value} {base : Heap} {fInt fRow fIsS fMove fCan fBeh fAll fCnt CM fI : Addr}
end
end Y
set_option Elab.async false
set_option linter.all false
set_option maxRecDepth 100000
set_option maxHeartbeats 4000000
namespace Y
open PySem L2
abbrev sFilled : Stmt := top 17
abbrev sThings : Stmt := top 999
abbrev sIsFilled : Stmt := top 18
abbrev sMovesAt : Stmt := top 19
abbrev sLed : Stmt := top 999
theorem ints_shapedL (ns : List Int) : SeqAt.shaped (.list (ns.map PyData.int)) = true := by
  unfold SeqAt.shaped
  have h1 : (PyData.list (ns.map PyData.int)).canLay0 = true := lay_ints ns
  have h2 : (PyData.list (ns.map PyData.int)).depth ≤ 64 := Nat.le_trans (Nat.succ_le_succ (depth_ints ns)) (by decide)
  rw [h1, decide_eq_true h2]
  rfl
/-! ### the filled places of a stand -/
def filTo (st : List Int) (m : Nat) : List Int := ((List.range m).filter fun i : Nat => decide (st.getD i 0 ≠ 0)).map fun i : Nat => ((i : Nat) : Int)
def filL (st : List Int) : List Int := filTo st st.length
theorem filTo_succ (st : List Int) (m : Nat) : filTo st (m + 1) = if st.getD m 0 ≠ 0 then filTo st m ++ [(m : Int)] else filTo st m := by
  unfold filTo
  rw [List.range_succ, List.filter_append, List.map_append]
  by_cases h : st.getD m 0 ≠ 0
  · rw [if_pos h, List.filter_cons_of_pos (by rw [decide_eq_true h])]
    rfl
  · rw [if_neg h, List.filter_cons_of_neg (by rw [decide_eq_false h]; exact Bool.false_ne_true)]
    simp
theorem filTo_len (st : List Int) : ∀ m, (filTo st m).length ≤ m
  | 0 => Nat.zero_le _
  | m + 1 => by
    have := filTo_len st m
    rw [filTo_succ]
    split
    · rw [List.length_append]; show _ + 1 ≤ m + 1; omega
    · omega
def nz (st : List Int) : List Int := st.filter fun z => decide (z ≠ 0)
def spFilled (K : PySem.W.Frag) : Sp := fun vs H Q _ => ∃ (s : Addr) (st : List Int), vs = [.ref s] ∧ SqA K H s (st.map V.int) ∧ st.length ≤ 1000 ∧ ∀ t H', SqT K H' t ((filL st).map V.int) → PlT H' t → Same H H' → Q (.ref t) H'
def spThings (K : PySem.W.Frag) : Sp := fun vs H Q _ => ∃ (s : Addr) (st : List Int), vs = [.ref s] ∧ SqA K H s (st.map V.int) ∧ st.length ≤ 1000 ∧ ∀ (t : Addr) (ms : List Int) (H' : Hp), ms.Perm (nz st) → ms.Pairwise (· ≤ ·) → SqT K H' t (ms.map V.int) → Same H H' → Q (.ref t) H'
/-- an ascending row of unlike places -/
structure FilOk (n : Nat) (r : List Int) : Prop where
  asc : r.Pairwise (· < ·)
  inn : ∀ z ∈ r, 0 ≤ z ∧ z < n
theorem FilOk.nodup {n : Nat} {r : List Int} (h : FilOk n r) : r.Nodup := h.asc.imp fun a => Int.ne_of_lt a
theorem asc_len : ∀ {r : List Int} {lo n : Int}, r.Pairwise (· < ·) → (∀ z ∈ r, lo ≤ z ∧ z < n) → (r.length : Int) ≤ max 0 (n - lo)
  | [], lo, n, _, _ => by simp only [List.length_nil]; omega
  | a :: l, lo, n, h, b => by
    have h1 := List.pairwise_cons.mp h
    have b0 := b a List.mem_cons_self
    have ih := asc_len (lo := a + 1) h1.2 (fun z hz => ⟨h1.1 z hz, (b z (List.mem_cons_of_mem _ hz)).2⟩)
    rw [List.length_cons]
    omega
theorem FilOk.len {n : Nat} {r : List Int} (h : FilOk n r) : r.length ≤ n := by
  have := asc_len h.asc h.inn
  omega
theorem nz_snoc (l : List Int) (z : Int) : nz (l ++ [z]) = if z ≠ 0 then nz l ++ [z] else nz l := by
  unfold nz
  rw [List.filter_append]
  by_cases h : z ≠ 0
  · rw [if_pos h, List.filter_cons_of_pos (by rw [decide_eq_true h])]
    rfl
  · rw [if_neg h, List.filter_cons_of_neg (by rw [decide_eq_false h]; exact Bool.false_ne_true)]
    simp
def spIsFilled (K : PySem.W.Frag) : Sp := fun vs H Q _ => ∃ (x : Addr) (y : V) (n : Nat) (ts : List (Int × Int)) (rs : List (List Int)) (r : List Int), vs = [.ref x, y] ∧ YObj K H x n ts rs ∧ RowAt K H y r ∧ FilOk n r ∧ n ≤ 60 ∧ ∀ H', Same H H' → Q (.bl true) H'
structure TR (K : PySem.W.Frag) (mg : Str → Option Value) (fUn : Addr) : Prop where
  i : TI0 mg
  enum : mg "enumerate" = none
  sorted : mg "sorted" = none
  range : mg "range" = none
  len : mg "len" = none
  gUn : mg "are_unlike_numbers" = some (.ref fUn)
section
variable {P : Program} {w : World} {K : PySem.W.Frag} {mg : Str → Option Value} {base : Heap} {fUn : Addr}
theorem scFilled : FnScope ["stand", "place", "thing"] ["stand"] (defScope sFilled) := ⟨rfl, rfl, rfl, by decide +kernel, rfl, by decide +kernel, by decide +kernel⟩
theorem ok_filled {f : Addr} {fd : FuncData} (F : Fun K "filled" "filled" sFilled f fd) (T : TR K mg fUn) : FnOk P w K mg base CX0 1 f fd ["stand"] (spFilled K) := by
  refine F.ok scFilled (fun vs H Q E h => ?_) (fun cdv A outer s H vs Q E hr h => ?_)
  · obtain ⟨s, st, rfl, _⟩ := h
    rfl
  · obtain ⟨s, st, rfl, hs, hl, k⟩ := h
    refine ⟨_, pss_one (ps_ret (pe_callTy call_tupF (by rfl) T.i.tuple (by decide +kernel) (pa_cons
      (pe_lc (own := [("place", 1), ("thing", 2)]) (g := gTup K 2 (gCons (gName 1) (gCons (gName 2) gNil))) rfl scFilled.nd (pi_enumV (by rfl) T.enum (pv 0)) (blkOk_by (N := ["stand", "place", "thing"]) (sc := defScope sFilled) (by decide +kernel))
        (fun _ _ _ _ _ => pgT (K := K) (n := 2) rfl rfl (pgs_cons (pg_name (i := 1) scFilled.nd rfl (Or.inl rfl)) (pgs_cons (pg_name (i := 2) scFilled.nd rfl (Or.inl rfl)) pgs_nil)) rfl rfl)
        (fun _ _ _ _ _ => pts_one (pt_cmpR op_ne (pv 2) pe_int (nomark _))) (fun _ _ _ _ _ => pv 1)) pa_nil))), ?_⟩
    refine ⟨s, st.map V.int, H, rfl, hs, .refl H, fun J G w1 hG D hD => ?_⟩
    refine lc_it w1 (fun i H' => H' D = some (.lst ((filTo st i).map V.int)) ∧ Same H H') ⟨upd_same, Same.new hD⟩ (fun i H' _ h => hG H' (.of_same h.2)) ?_ ?_
    · rintro i v H1 H2 hi ⟨eD, s1⟩ ⟨T1, u, y, rfl, nT, rfl, e1, e2⟩
      cases Option.some.inj e1
      rw [List.length_map] at hi
      have hy := e2.symm.trans (getD_at hi)
      cases Option.some.inj hy
      have e3 := Same.new nT (o := .tup [.int (i : Nat), .int (st.getD i 0)]) _ _ eD
      have s2 := s1.trans (Same.new (o := .tup [.int (i : Nat), .int (st.getD i 0)]) nT)
      refine ⟨T1, _, rfl, SqT.of upd_same, rfl, _, _, rfl, _, _, rfl, rfl, rfl, ?_⟩
      refine ⟨_, rfl, rfl, _, rfl, ?_⟩
      by_cases h0 : st.getD i 0 ≠ 0
      · rw [show (!decide (V.int (st.getD i 0) = V.int 0)) = true by rw [decide_eq_false (fun z => h0 (by injection z))]; rfl]
        refine iteT ⟨_, rfl, (filTo st i).map V.int, e3, ?_, ?_, Same.upd_new s2 hD⟩
        · have := filTo_len st i
          rw [List.length_map]
          exact Nat.lt_of_le_of_lt (by omega : _ ≤ 1000) (by decide)
        · rw [upd_same, filTo_succ, if_pos h0, List.map_append]
          rfl
      · have z0 : st.getD i 0 = 0 := Classical.not_not.mp h0
        rw [show (!decide (V.int (st.getD i 0) = V.int 0)) = false by rw [z0]; rfl]
        refine iteF ⟨?_, s2⟩
        rw [filTo_succ, if_neg h0]
        exact e3
    · rintro H1 ⟨eD, s1⟩
      rw [List.length_map] at eD
      exact ⟨D, _, rfl, .inl ⟨SqL.of eD, fun t H' nt => k t H' nt.sq nt.pl (s1.trans nt.same)⟩⟩
theorem scIsFilled : FnScope ["yard", "value"] ["yard", "value"] (defScope sIsFilled) := ⟨rfl, rfl, rfl, by decide +kernel, rfl, by decide +kernel, by decide +kernel⟩
theorem asc_eq {r ms : List Int} (h : r.Pairwise (· < ·)) (p : ms.Perm r) (q : ms.Pairwise (· ≤ ·)) : ms = r :=
  p.eq_of_pairwise (le := fun a b : Int => decide (a ≤ b) = true) (fun a b _ _ h1 h2 => Int.le_antisymm (of_decide_eq_true h1) (of_decide_eq_true h2)) (q.imp fun h => decide_eq_true h) (h.imp fun h => decide_eq_true (Int.le_of_lt h))
theorem ok_isFilled {f : Addr} {fd fdU : FuncData} (F : Fun K "is_filled_row" "is_filled_row" sIsFilled f fd) (T : TR K mg fUn) (GU : FnOk P w K mg base CX0 3 fUn fdU ["many", "value"] (spUnlike K)) (FU : Fun K "are_unlike_numbers" "are_unlike_numbers" sUnlike fUn fdU) (bU : Binds K fdU ["many", "value"] []) :
    FnOk P w K mg base CX0 4 f fd ["yard", "value"] (spIsFilled K) := by
  refine F.ok scIsFilled (fun vs H Q E h => ?_) (fun cdv A outer s H vs Q E hr h => ?_)
  · obtain ⟨x, y, n, ts, rs, r, rfl, _⟩ := h
    rfl
  · obtain ⟨x, y, n, ts, rs, r, rfl, hy, ⟨b, rfl, hb⟩, ok, n60, k⟩ := h
    refine ⟨_, pss_one (ps_ret (pe_and (pe_call GU hr (by rfl) T.gUn FU.kp bU .nil pass0 (pa_cons (pe_fld (pv 0) rfl) (pa_cons (pv 1) pa_nil))) (pe_one (pe_cmpR (op_eqD hr.units) (pe_callB cr_sortedA (by rfl) T.sorted (by decide +kernel) (pa_cons (pv 1) pa_nil)) (pe_callTy call_list_of (by rfl) T.i.list (by decide +kernel) (pa_cons (pv 1) pa_nil)) (nomark _))))), ?_⟩
    obtain ⟨C, dx, a, e, fs, tys, zs, hx, yc, lp, lt, lr, ha, pa, he, pe⟩ := id hy
    have l60 := ok.len
    refine ⟨_, rfl, x, C, dx, fs, _, rfl, hx, yc.c, yc.p, lp, _, rfl, n, _, r, rfl, ⟨b, rfl, hb⟩, ok.inn, ok.nodup, by omega, fun H1 s1 => ⟨true, rfl, iteT ?_⟩⟩
    have hb1 := Same.seqA s1 hb
    refine ⟨_, rfl, b, r, rfl, hb1, by omega, fun ms p pm asc np => ?_⟩
    obtain rfl := asc_eq ok.asc pm asc
    have s2 := s1.trans (Same.new (o := .lst (ms.map V.int)) np)
    refine ⟨_, rfl, b, _, rfl, Same.seqA s2 hb, fun l nl => ?_⟩
    have s3 := s2.trans (Same.new (o := .lst (ms.map V.int)) nl)
    refine ⟨.list (ms.map PyData.int), .list (ms.map PyData.int), .lst (SqL.of (Same.new nl _ _ upd_same)) (ints_dp ms), .lst (SqL.of upd_same) (ints_dp ms), ints_shapedL ms, ints_shapedL ms, ?_⟩
    rw [show PyData.eqv (.list (ms.map PyData.int)) (.list (ms.map PyData.int)) = true from ints_self ms]
    exact k _ s3
end
end Y
set_option Elab.async false
set_option linter.all false
set_option maxRecDepth 100000
set_option maxHeartbeats 4000000
namespace Y
open PySem L2
theorem op_inK {X : Cx} {K : PySem.W.Frag} (e : X.K = K) : OpR X (compareOp .In) (rIn K false) := by
  subst e
  exact op_in_seq
theorem op_notInK {X : Cx} {K : PySem.W.Frag} (e : X.K = K) : OpR X (compareOp .NotIn) (rIn K true) := by
  subst e
  exact op_notIn_seq
/-! ### the moves that can be made at a filled row -/
def canR (r : List Int) (t : Int × Int) : Bool := decide (t.1 ∈ r) && !decide (t.2 ∈ r)
def movesR (ts : List (Int × Int)) (rs : List (List Int)) (r : List Int) : List Mv := (ts.filter (canR r)).map slideOf ++ turns rs.length
theorem in_ints (a : Int) (r : List Int) : inV (.int a) (r.map V.int) = decide (a ∈ r) := by
  unfold inV
  rw [Bool.eq_iff_iff, List.any_eq_true, decide_eq_true_iff]
  constructor
  · rintro ⟨x, hx, e⟩
    obtain ⟨z, hz, rfl⟩ := List.mem_map.mp hx
    have : z = a := eq_of_beq e
    rw [← this]
    exact hz
  · exact fun h => ⟨.int a, List.mem_map.mpr ⟨a, h, rfl⟩, beq_self_eq_true a⟩
def spMovesAt (K : PySem.W.Frag) : Sp := fun vs H Q _ => ∃ (x : Addr) (y : V) (n : Nat) (ts : List (Int × Int)) (rs : List (List Int)) (r : List Int), vs = [.ref x, y] ∧ YObj K H x n ts rs ∧ RowAt K H y r ∧ FilOk n r ∧ n ≤ 60 ∧ ts.length ≤ 1000 ∧ rs.length ≤ 1000 ∧
  ∀ (t : Addr) (ys : List V) (H' : Hp), SqT K H' t ys → MvsAt K H' ys (movesR ts rs r) → Same H H' → Q (.ref t) H'
section
variable {P : Program} {w : World} {K : PySem.W.Frag} {mg : Str → Option Value} {base : Heap} {fUn fFil : Addr}
theorem scMovesAt : FnScope ["yard", "row", "slides", "a", "b", "turns", "number"] ["yard", "row"] (defScope sMovesAt) := ⟨rfl, rfl, rfl, by decide +kernel, rfl, by decide +kernel, by decide +kernel⟩
theorem ok_movesAt {f : Addr} {fd fdF : FuncData} (F : Fun K "moves_at" "moves_at" sMovesAt f fd) (T : TR K mg fUn) (gF : mg "is_filled_row" = some (.ref fFil)) (GF : FnOk P w K mg base CX0 4 fFil fdF ["yard", "value"] (spIsFilled K)) (FF : Fun K "is_filled_row" "is_filled_row" sIsFilled fFil fdF) (bF : Binds K fdF ["yard", "value"] []) :
    FnOk P w K mg base CX0 5 f fd ["yard", "row"] (spMovesAt K) := by
  refine F.ok scMovesAt (fun vs H Q E h => ?_) (fun cdv A outer s H vs Q E hr h => ?_)
  · obtain ⟨x, y, n, ts, rs, r, rfl, _⟩ := h
    rfl
  · obtain ⟨x, y, n, ts, rs, r, rfl, hy, ⟨rb, rfl, hb⟩, ok, n60, hts, hrs, k⟩ := h
    refine ⟨_, pss_cons (ps_if (pt_not (pt_val (pe_call GF hr (by rfl) gF FF.kp bF .nil pass0 (pa_cons (pv 0) (pa_cons (pv 1) pa_nil))))) (pss_one ps_never) pss_nil)
      (pss_cons (ps_setLc (own := [("a", 3), ("b", 4)]) (i := 2) (g := gTup K 2 (gCons (gName 3) (gCons (gName 4) gNil))) rfl scMovesAt.nd rfl rfl (sw_true rfl rfl rfl (by decide +kernel)) (pi_tup (pe_fld (pv 0) rfl)) (blkOk_by (N := ["yard", "row", "slides", "a", "b", "turns", "number"]) (sc := defScope sMovesAt) (by decide +kernel))
        (fun _ _ _ _ _ => pgT (K := K) (n := 2) rfl rfl (pgs_cons (pg_name (i := 3) scMovesAt.nd rfl (Or.inl rfl)) (pgs_cons (pg_name (i := 4) scMovesAt.nd rfl (Or.inl rfl)) pgs_nil)) rfl rfl)
        (fun _ _ _ _ _ => pts_one (PW.pt (pw_and (pt_cmpR (op_inK (K := K) rfl) (pv 3) (pv 1) (by rfl)) (pw_and1 (pt_cmpR (op_notInK (K := K) rfl) (pv 4) (pv 1) (by rfl))))))
        (fun _ _ _ _ _ => pe_tup (pa_cons pe_str (pa_cons (pv 3) (pa_cons (pv 4) pa_nil)))))
      (pss_cons (ps_setLc (own := [("number", 6)]) (i := 5) (g := gName 6) (tt := tYes) rfl scMovesAt.nd rfl rfl (sw_true rfl rfl rfl (by decide +kernel)) (pi_range1 (by rfl) T.range (pa_cons (pe_callB call_len_seq (by rfl) T.len PySem.boot_len (pa_cons (pe_fld (pv 0) rfl) pa_nil)) pa_nil)) (blkOk_by (N := ["yard", "row", "slides", "a", "b", "turns", "number"]) (sc := defScope sMovesAt) (by decide +kernel))
        (fun _ _ _ _ _ => pg_name (i := 6) scMovesAt.nd rfl (Or.inl rfl)) (fun _ _ _ _ _ => pts_nil) (fun _ _ _ _ _ => pe_tup (pa_cons pe_str (pa_cons (pv 6) pa_nil))))
      (pss_one (ps_ret (pe_callTy call_tupF (by rfl) T.i.tuple (by decide +kernel) (pa_cons (pe_op op_cat (pv 2) (pv 5)) pa_nil)))))), ?_⟩
    refine ⟨_, rfl, _, rfl, x, _, n, ts, rs, r, rfl, hy, ⟨rb, rfl, hb⟩, ok, n60, fun H0 s0 => ⟨_, rfl, iteF ?_⟩⟩
    obtain ⟨C, dx, a, e, fs, ys, zs, hx, yc, lp, lt, lr, ha, pa, he, pe⟩ := hy.kp (.of_same s0)
    have hb0 := Same.seqA s0 hb
    have hyl : ys.length = ts.length := ties_len pa
    have hzl : zs.length = rs.length := Paired.length pe
    refine ⟨_, rfl, x, C, dx, fs, _, rfl, hx, yc.c, yc.t, lt, a, rfl, ⟨_, ha⟩, fun D hD => ?_⟩
    refine lc_tup (K := K) (a := a) (xs := ys) (fun i H' => ∃ ws, H' D = some (.lst ws) ∧ MvsAt K H' ws (((ts.take i).filter (canR r)).map slideOf) ∧ ws.length ≤ i ∧ Same H0 H') ⟨[], upd_same, .nil, Nat.le_refl 0, Same.new hD⟩ (fun i H' _ ⟨_, _, _, _, s⟩ => Same.seqT s ha) (fun i x H1 hx h => ?_) (fun H1 h => ?_)
    · obtain ⟨ws, eD, pw, lw, s1⟩ := h
      obtain ⟨t, et, b, rfl, hbt⟩ := ties_get pa hx
      have hi : i < ts.length := by
        rcases Nat.lt_or_ge i ts.length with h | h
        · exact h
        · rw [List.getElem?_eq_none h] at et; cases et
      have hb1 := Same.seqA s1 hb0
      refine ⟨b, _, rfl, Same.seqT s1 hbt, rfl, _, _, rfl, _, _, rfl, rfl, rfl, ?_⟩
      have no : canR r t = false → ∃ ws, H1 D = some (.lst ws) ∧ MvsAt K H1 ws (((ts.take (i + 1)).filter (canR r)).map slideOf) ∧ ws.length ≤ i + 1 ∧ Same H0 H1 := fun c => ⟨ws, eD, by rw [take_next et, filter_snoc, c]; exact pw, by omega, s1⟩
      refine ⟨_, rfl, _, rfl, rb, _, rfl, hb1, rfl, flat_intsV r, _, rfl, ?_⟩
      rw [in_ints]
      refine ifT (fun c1 => ?_) (fun c1 => ?_)
      · refine ⟨_, rfl, _, rfl, rb, _, rfl, hb1, rfl, flat_intsV r, _, rfl, ?_⟩
        rw [in_ints]
        refine ifT (fun c2 => ?_) (fun c2 => ?_)
        · have c : canR r t = true := by
            show (decide (t.1 ∈ r) && !decide (t.2 ∈ r)) = true
            rw [show decide (t.1 ∈ r) = true from c1, show (!decide (t.2 ∈ r)) = true from c2]
            rfl
          refine ⟨_, rfl, _, rfl, (by show 3 ≤ sizeLine; decide), fun m nm => ?_⟩
          have e1 := Same.new nm (o := .tup [.str "slide", .int t.1, .int t.2]) _ _ eD
          refine ⟨ws, e1, Nat.lt_of_le_of_lt (by omega : ws.length ≤ 1001) (by decide), ws ++ [V.ref m], upd_same, ?_, by rw [List.length_append]; exact Nat.succ_le_succ lw, Same.upd_new (s1.trans (Same.new nm)) hD⟩
          rw [take_next et, filter_snoc, if_pos c, List.map_append]
          exact par_snoc (par_map (fun y m' h => (h.kp (.new nm)).off e1) pw) ⟨m, rfl, seqT_off (SqT.of upd_same) e1⟩
        · refine no ?_
          show (decide (t.1 ∈ r) && !decide (t.2 ∈ r)) = false
          rw [show (!decide (t.2 ∈ r)) = false from c2, Bool.and_false]
      · refine no ?_
        show (decide (t.1 ∈ r) && !decide (t.2 ∈ r)) = false
        rw [show decide (t.1 ∈ r) = false from c1, Bool.false_and]
    · obtain ⟨ws, eD, pw, lw, s1⟩ := h
      rw [hyl, List.take_length] at pw
      refine ⟨_, rfl, x, C, dx, fs, _, rfl, s1 _ _ hx, yc.c, yc.r, lr, e, zs, rfl, .inr (Same.seqT s1 he), (zs.length : Int), rfl, by omega, by omega, fun D2 hD2 => ?_⟩
      refine lc_turns (K := K) s1 hD2 (by omega) (fun v _ => rfl) (fun v => rfl) fun us H2 e2 p2 s2 => ?_
      have eD2 := s2 _ _ eD
      have hz : ((zs.length : Int)).toNat = rs.length := by omega
      rw [hz] at p2
      refine ⟨_, rfl, _, rfl, D, D2, ws, us, rfl, rfl, eD2, e2, Nat.le_trans (by rw [Paired.length p2, turns, List.length_map, List.length_range]; omega : ws.length + us.length ≤ 2000) (by decide), fun l nl => ?_⟩
      have s3 := Same.new nl (o := .lst (ws ++ us))
      refine ⟨l, _, rfl, .inl ⟨SqL.of upd_same, fun t H' nt => k t (ws ++ us) H' nt.sq ?_ ((((s0.trans s1).trans s2).trans s3).trans nt.same)⟩⟩
      exact par_app (par_map (fun y m h => h.kp (.of_same ((s2.trans s3).trans nt.same))) pw) (par_map (fun y m h => h.kp (.of_same (s3.trans nt.same))) p2)
end
end Y
set_option Elab.async false
set_option linter.all false
set_option maxRecDepth 100000
set_option maxHeartbeats 2000000
namespace Y
open PySem L2
/-! what k10's reading of a search takes, without its rows: keys, rows as tuples, what stays -/
/-- a yard one can move in -/
structure YP (n : Nat) (ts : List (Int × Int)) (rs : List (List Int)) : Prop where
  n1 : 1 ≤ n
  n60 : n ≤ 60
  tok : ∀ t ∈ ts, TieOk n t
  rok : ∀ r ∈ rs, RingOk n r
  tl : ts.length ≤ 60
  rl : rs.length ≤ 60
theorem YdOk.yp {n : Nat} {ts : List (Int × Int)} {rs : List (List Int)} (h : YdOk n ts rs) : YP n ts rs := ⟨h.1, Nat.le_trans h.2.1 (by decide), h.2.2.1.2.1, h.2.2.2.2.1, h.2.2.2.1, Nat.le_trans h.2.2.2.2.2 (by decide)⟩
/-- a row as a tuple that can be a key -/
def RowV (H : Hp) (v : V) (r : List Int) : Prop := ∃ b, v = .ref b ∧ H b = some (.tup (r.map V.int))
theorem RowV.kp {H H' : Hp} {v : V} {r : List Int} (h : RowV H v r) (s : ∀ b xs, H b = some (.tup xs) → H' b = some (.tup xs)) : RowV H' v r := let ⟨b, e, h⟩ := h; ⟨b, e, s b _ h⟩
theorem RowV.row {K : PySem.W.Frag} {H : Hp} {v : V} {r : List Int} (h : RowV H v r) : RowAt K H v r := let ⟨b, e, h⟩ := h; ⟨b, e, .inr (SqT.of h)⟩
/-- (move, row) -/
def StepV (K : PySem.W.Frag) (H : Hp) (v : V) (s : Mv × List Int) : Prop := ∃ t m b, v = .ref t ∧ H t = some (.tup [m, b]) ∧ MvAt K H m s.1 ∧ RowV H b s.2
theorem StepV.same {K : PySem.W.Frag} {H H' : Hp} {v : V} {s : Mv × List Int} (h : StepV K H v s) (e : Same H H') : StepV K H' v s := by
  obtain ⟨t, m, b, rfl, h1, h2, h3⟩ := h
  exact ⟨t, m, b, rfl, e _ _ h1, h2.kp (.of_same e), h3.kp fun b xs => e b _⟩
theorem StepV.kp {K : PySem.W.Frag} {H H' : Hp} {v : V} {s : Mv × List Int} (h : StepV K H v s) (e : Kp H H') : StepV K H' v s := by
  obtain ⟨t, m, b, rfl, h1, h2, h3⟩ := h
  exact ⟨t, m, b, rfl, e.tup h1, h2.kp e, h3.kp fun b xs => e.tup⟩
/-- all but lists and dicts stands -/
def KpT (H H' : Hp) : Prop := ∀ b o, H b = some o → (∀ xs, o ≠ .lst xs) → (∀ kvs, o ≠ .dT kvs) → (∀ kvs, o ≠ .dK kvs) → H' b = some o
section
variable {K : PySem.W.Frag} {H H' H2 : Hp}
theorem KpT.of_same (s : Same H H') : KpT H H' := fun b o e _ _ _ => s b o e
theorem KpT.trans (a : KpT H H') (b : KpT H' H2) : KpT H H2 := fun c o e h1 h2 h3 => b c o (a c o e h1 h2 h3) h1 h2 h3
theorem KpT.lst {a : Addr} {xs : List V} {o : HO} (h : H a = some (.lst xs)) : KpT H (upd H a o) := fun b u e n _ _ => by rw [upd_ne (ne_of e h (n xs))]; exact e
theorem KpT.dt {a : Addr} {kvs : List (List Key × V)} {o : HO} (h : H a = some (.dT kvs)) : KpT H (upd H a o) := fun b u e _ n _ => by rw [upd_ne (ne_of e h (n kvs))]; exact e
theorem KpT.tup {a : Addr} {xs : List V} (s : KpT H H') (h : H a = some (.tup xs)) : H' a = some (.tup xs) := s _ _ h (fun _ z => by cases z) (fun _ z => by cases z) fun _ z => by cases z
theorem KpT.seqT {a : Addr} {xs : List V} (s : KpT H H') (h : SqT K H a xs) : SqT K H' a xs := by
  rcases h with (h | ⟨o, h⟩) | h
  · exact .inl (.inl (s.tup h))
  · exact .inl (.inr ⟨o, s _ _ h (fun _ z => by cases z) (fun _ z => by cases z) fun _ z => by cases z⟩)
  · exact .inr h
theorem KpT.mv {y : V} {m : Mv} (s : KpT H H') (h : MvAt K H y m) : MvAt K H' y m := by
  obtain ⟨b, e, h⟩ := h
  exact ⟨b, e, s.seqT h⟩
theorem KpT.row {v : V} {r : List Int} (s : KpT H H') (h : RowV H v r) : RowV H' v r := h.kp fun b xs e => s.tup e
theorem KpT.step {v : V} {p : Mv × List Int} (s : KpT H H') (h : StepV K H v p) : StepV K H' v p := by
  obtain ⟨t, m, b, rfl, h1, h2, h3⟩ := h
  exact ⟨t, m, b, rfl, s.tup h1, s.mv h2, s.row h3⟩
theorem KpT.ties {ys : List V} {ts : List (Int × Int)} (s : KpT H H') (h : Paired (TieAt K H) ys ts) : Paired (TieAt K H') ys ts := par_map (fun y r ⟨b, e, hb⟩ => ⟨b, e, s.seqT hb⟩) h
theorem KpT.rings {ys : List V} {rs : List (List Int)} (s : KpT H H') (h : Paired (RingAt K H) ys rs) : Paired (RingAt K H') ys rs := par_map (fun y r ⟨b, e, hb⟩ => ⟨b, e, s.seqT hb⟩) h
theorem KpT.yo {x : Addr} {n : Nat} {ts : List (Int × Int)} {rs : List (List Int)} (s : KpT H H') (h : YObj K H x n ts rs) : YObj K H' x n ts rs := by
  obtain ⟨C, dx, a, e, fs, ys, zs, hx, yc, lp, lt, lr, ha, pa, he, pe⟩ := h
  exact ⟨C, dx, a, e, fs, ys, zs, s _ _ hx (fun _ z => by cases z) (fun _ z => by cases z) (fun _ z => by cases z), yc, lp, lt, lr, s.seqT ha, s.ties pa, s.seqT he, s.rings pe⟩
end
theorem Same.none {H H' : Hp} {a : Addr} (s : Same H H') (n : H' a = none) : H a = none := by
  cases e : H a with
  | none => rfl
  | some o => rw [s _ _ e] at n; cases n
def spFilT (K : PySem.W.Frag) : Sp := fun vs H Q _ => ∃ (s : Addr) (st : List Int), vs = [.ref s] ∧ SqA K H s (st.map V.int) ∧ st.length ≤ 1000 ∧ ∀ t H', H' t = some (.tup ((filL st).map V.int)) → Same H H' → Q (.ref t) H'
section
variable {P : Program} {w : World} {K : PySem.W.Frag} {mg : Str → Option Value} {base : Heap} {fUn : Addr}
theorem ok_filT {f : Addr} {fd : FuncData} (F : Fun K "filled" "filled" sFilled f fd) (T : TR K mg fUn) : FnOk P w K mg base CX0 1 f fd ["stand"] (spFilT K) := by
  refine F.ok scFilled (fun vs H Q E h => ?_) (fun cdv A outer s H vs Q E hr h => ?_)
  · obtain ⟨s, st, rfl, _⟩ := h
    rfl
  · obtain ⟨s, st, rfl, hs, hl, k⟩ := h
    refine ⟨_, pss_one (ps_ret (pe_callTy call_tuple_of (by rfl) T.i.tuple (by decide +kernel) (pa_cons
      (pe_lc (own := [("place", 1), ("thing", 2)]) (g := gTup K 2 (gCons (gName 1) (gCons (gName 2) gNil))) rfl scFilled.nd (pi_enumV (by rfl) T.enum (pv 0)) (blkOk_by (N := ["stand", "place", "thing"]) (sc := defScope sFilled) (by decide +kernel))
        (fun _ _ _ _ _ => pgT (K := K) (n := 2) rfl rfl (pgs_cons (pg_name (i := 1) scFilled.nd rfl (Or.inl rfl)) (pgs_cons (pg_name (i := 2) scFilled.nd rfl (Or.inl rfl)) pgs_nil)) rfl rfl)
        (fun _ _ _ _ _ => pts_one (pt_cmpR op_ne (pv 2) pe_int (nomark _))) (fun _ _ _ _ _ => pv 1)) pa_nil))), ?_⟩
    refine ⟨s, st.map V.int, H, rfl, hs, .refl H, fun J G w1 hG D hD => ?_⟩
    refine lc_it w1 (fun i H' => H' D = some (.lst ((filTo st i).map V.int)) ∧ Same H H') ⟨upd_same, Same.new hD⟩ (fun i H' _ h => hG H' (.of_same h.2)) ?_ ?_
    · rintro i v H1 H2 hi ⟨eD, s1⟩ ⟨T1, u, y, rfl, nT, rfl, e1, e2⟩
      cases Option.some.inj e1
      rw [List.length_map] at hi
      have hy := e2.symm.trans (getD_at hi)
      cases Option.some.inj hy
      have e3 := Same.new nT (o := .tup [.int (i : Nat), .int (st.getD i 0)]) _ _ eD
      have s2 := s1.trans (Same.new (o := .tup [.int (i : Nat), .int (st.getD i 0)]) nT)
      refine ⟨T1, _, rfl, SqT.of upd_same, rfl, _, _, rfl, _, _, rfl, rfl, rfl, ?_⟩
      refine ⟨_, rfl, rfl, _, rfl, ?_⟩
      by_cases h0 : st.getD i 0 ≠ 0
      · rw [show (!decide (V.int (st.getD i 0) = V.int 0)) = true by rw [decide_eq_false (fun z => h0 (by injection z))]; rfl]
        refine iteT ⟨_, rfl, (filTo st i).map V.int, e3, ?_, ?_, Same.upd_new s2 hD⟩
        · have := filTo_len st i
          rw [List.length_map]
          exact Nat.lt_of_le_of_lt (by omega : _ ≤ 1000) (by decide)
        · rw [upd_same, filTo_succ, if_pos h0, List.map_append]
          rfl
      · have z0 : st.getD i 0 = 0 := Classical.not_not.mp h0
        rw [show (!decide (V.int (st.getD i 0) = V.int 0)) = false by rw [z0]; rfl]
        refine iteF ⟨?_, s2⟩
        rw [filTo_succ, if_neg h0]
        exact e3
    · rintro H1 ⟨eD, s1⟩
      rw [List.length_map] at eD
      exact ⟨D, _, rfl, .inl ⟨SqL.of eD, fun t nt => k t _ upd_same (s1.trans (Same.new nt))⟩⟩
end
/-! ### dicts whose keys are rows -/
def keyR (r : List Int) : List Key := r.map Sum.inl
theorem keyR_inj : ∀ {r s : List Int}, keyR r = keyR s → r = s
  | [], [], _ => rfl
  | [], _ :: _, h => by cases h
  | _ :: _, [], h => by cases h
  | a :: r, b :: s, h => by
    injection h with h1 h2
    injection h1 with h1
    rw [h1, keyR_inj h2]
theorem keyR_kV (r : List Int) : (keyR r).map kV = r.map V.int := by
  unfold keyR
  rw [List.map_map]
  rfl
theorem RowV.key {H : Hp} {v : V} {r : List Int} (h : RowV H v r) : ∃ b, v = .ref b ∧ H b = some (.tup ((keyR r).map kV)) := by
  obtain ⟨b, e, h⟩ := h
  exact ⟨b, e, by rw [keyR_kV]; exact h⟩
section
variable {α : Type} {F : V → α → Prop}
/-- kvs holds at the key r of each (r, z) of ps what F tells of z -/
abbrev KVs (F : V → α → Prop) (kvs : List (List Key × V)) (ps : List (List Int × α)) : Prop := Paired (fun kv p => kv.1 = keyR p.1 ∧ F kv.2 p.2) kvs ps
theorem KVs.none {kvs : List (List Key × V)} {ps : List (List Int × α)} (h : KVs F kvs ps) {r : List Int} (hr : r ∉ ps.map (·.1)) : valV kvs (keyR r) = none := by
  induction h with
  | nil => rfl
  | cons a _ ih =>
    rw [List.map_cons, List.mem_cons, not_or] at hr
    rw [valV_neg fun e => hr.1 (keyR_inj (e.symm.trans a.1))]
    exact ih hr.2
theorem KVs.at {kvs : List (List Key × V)} {ps : List (List Int × α)} (h : KVs F kvs ps) (nd : (ps.map (·.1)).Nodup) {p : List Int × α} (hp : p ∈ ps) : ∃ v, valV kvs (keyR p.1) = some v ∧ F v p.2 := by
  induction h with
  | nil => cases hp
  | cons a _ ih =>
    rw [List.map_cons] at nd
    have n1 := List.nodup_cons.mp nd
    rcases List.mem_cons.mp hp with rfl | hp
    · exact ⟨_, valV_pos a.1, a.2⟩
    · rw [valV_neg fun e => n1.1 (by rw [show _ = p.1 from keyR_inj (a.1.symm.trans e)]; exact List.mem_map.mpr ⟨p, hp, rfl⟩)]
      exact ih n1.2 hp
theorem KVs.snoc {kvs : List (List Key × V)} {ps : List (List Int × α)} (h : KVs F kvs ps) {r : List Int} {v : V} {z : α} (hr : r ∉ ps.map (·.1)) (hv : F v z) : KVs F (putK kvs (keyR r) v) (ps ++ [(r, z)]) := by
  rw [putK_new v (h.none hr)]
  exact par_snoc h ⟨rfl, hv⟩
theorem KVs.some_iff {kvs : List (List Key × V)} {ps : List (List Int × α)} (h : KVs F kvs ps) (nd : (ps.map (·.1)).Nodup) {r : List Int} : (valV kvs (keyR r)).isSome = decide (r ∈ ps.map (·.1)) := by
  by_cases c : r ∈ ps.map (·.1)
  · obtain ⟨p, hp, rfl⟩ := List.mem_map.mp c
    obtain ⟨v, e, _⟩ := h.at nd hp
    rw [e, decide_eq_true c]
    rfl
  · rw [h.none c, decide_eq_false c]
    rfl
theorem KVs.mono {F' : V → α → Prop} {kvs : List (List Key × V)} {ps : List (List Int × α)} (h : KVs F kvs ps) (f : ∀ v z, F v z → F' v z) : KVs F' kvs ps := par_map (fun kv p hk => ⟨hk.1, f _ _ hk.2⟩) h
theorem KVs.len {kvs : List (List Key × V)} {ps : List (List Int × α)} (h : KVs F kvs ps) : kvs.length = ps.length := Paired.length h
end
theorem filTo_mem {st : List Int} {m : Nat} {z : Int} : z ∈ filTo st m ↔ ∃ i : Nat, z = (i : Int) ∧ i < m ∧ st.getD i 0 ≠ 0 := by
  unfold filTo
  rw [List.mem_map]
  constructor
  · rintro ⟨i, hi, rfl⟩
    obtain ⟨h1, h2⟩ := List.mem_filter.mp hi
    exact ⟨i, rfl, List.mem_range.mp h1, of_decide_eq_true h2⟩
  · rintro ⟨i, rfl, h1, h2⟩
    exact ⟨i, List.mem_filter.mpr ⟨List.mem_range.mpr h1, decide_eq_true h2⟩, rfl⟩
theorem fil_ok (st : List Int) : FilOk st.length (filL st) := by
  refine ⟨?_, fun z hz => ?_⟩
  · unfold filL filTo
    rw [List.pairwise_map]
    exact ((List.pairwise_lt_range (n := st.length)).sublist List.filter_sublist).imp fun h => by omega
  · obtain ⟨i, rfl, h1, _⟩ := filTo_mem.mp hz
    exact ⟨by omega, by omega⟩
theorem sub_len {α : Type} [DecidableEq α] : ∀ {l D : List α}, l.Nodup → (∀ x ∈ l, x ∈ D) → l.length ≤ D.length
  | [], _, _, _ => Nat.zero_le _
  | a :: l, D, nd, h => by
    have n1 := List.nodup_cons.mp nd
    have ha := h a List.mem_cons_self
    have ih := sub_len (D := D.erase a) n1.2 fun x hx => (List.mem_erase_of_ne (fun z => n1.1 (by rw [← z]; exact hx))).mpr (h x (List.mem_cons_of_mem _ hx))
    rw [List.length_erase_of_mem ha] at ih
    have := List.length_pos_of_mem ha
    rw [List.length_cons]
    omega
end Y
set_option Elab.async false
set_option linter.all false
set_option maxRecDepth 100000
set_option maxHeartbeats 2000000
namespace Y
open PySem L2
/-! ### layers of stands, as mathematics -/
abbrev Rw := List Int
abbrev Ed := Rw × Mv × Rw
abbrev StF := Rw → List (Mv × Rw)
def edgesR (S : StF) (r : Rw) : List Ed := (S r).map fun s => (r, s.1, s.2)
def edges (S : StF) (L : List Rw) : List Ed := L.flatMap (edgesR S)
def addF (E F : List Rw) (x : Rw) : List Rw := if x ∈ E then F else if x ∈ F then F else F ++ [x]
def fresh (E : List Rw) (es : List Ed) : List Rw := es.foldl (fun F e => addF E F e.2.2) []
def into (es : List Ed) (b : Rw) : List (Rw × Mv) := (es.filter (fun e => decide (e.2.2 = b))).map fun e => (e.1, e.2.1)
theorem fresh_snoc (E : List Rw) (es : List Ed) (e : Ed) : fresh E (es ++ [e]) = addF E (fresh E es) e.2.2 := by
  unfold fresh
  rw [List.foldl_append]
  rfl
theorem snoc_ind {α : Type} {p : List α → Prop} (h0 : p []) (hs : ∀ l x, p l → p (l ++ [x])) : ∀ l, p l := fun l => by
  have : p l.reverse.reverse := by
    induction l.reverse with
    | nil => exact h0
    | cons a r ih => rw [List.reverse_cons]; exact hs _ _ ih
  rwa [List.reverse_reverse] at this
theorem mem_addF {E F : List Rw} {x y : Rw} : y ∈ addF E F x ↔ y ∈ F ∨ (y = x ∧ x ∉ E) := by
  unfold addF
  by_cases h : x ∈ E
  · rw [if_pos h]
    exact ⟨.inl, fun h2 => h2.elim id fun z => absurd h z.2⟩
  · rw [if_neg h]
    by_cases h2 : x ∈ F
    · rw [if_pos h2]
      exact ⟨.inl, fun h3 => h3.elim id fun z => by rw [z.1]; exact h2⟩
    · rw [if_neg h2, List.mem_append, List.mem_singleton]
      exact ⟨fun h3 => h3.imp id fun z => ⟨z, h⟩, fun h3 => h3.imp id fun z => z.1⟩
theorem mem_fresh {E : List Rw} {es : List Ed} {x : Rw} : x ∈ fresh E es ↔ x ∉ E ∧ ∃ e ∈ es, e.2.2 = x := by
  revert x
  refine snoc_ind (p := fun es => ∀ {x : Rw}, x ∈ fresh E es ↔ x ∉ E ∧ ∃ e ∈ es, e.2.2 = x) ?_ ?_ es
  · intro x
    exact ⟨fun h => (by cases h), fun ⟨_, e, h, _⟩ => (by cases h)⟩
  · intro l e ih x
    rw [fresh_snoc, mem_addF, ih]
    constructor
    · rintro (⟨h1, u, hu, rfl⟩ | ⟨rfl, h⟩)
      · exact ⟨h1, u, List.mem_append_left _ hu, rfl⟩
      · exact ⟨h, e, List.mem_append_right _ List.mem_cons_self, rfl⟩
    · rintro ⟨h1, u, hu, rfl⟩
      rcases List.mem_append.mp hu with hu | hu
      · exact .inl ⟨h1, u, hu, rfl⟩
      · rw [List.mem_singleton.mp hu] at h1 ⊢
        exact .inr ⟨rfl, h1⟩
theorem addF_nodup {E F : List Rw} {x : Rw} (h : F.Nodup) : (addF E F x).Nodup := by
  unfold addF
  split
  · exact h
  · split
    · exact h
    · rename_i h2
      refine List.nodup_append.mpr ⟨h, by simp, fun a ha b hb => ?_⟩
      rw [List.mem_singleton.mp hb]
      exact fun z => h2 (by rw [← z]; exact ha)
theorem fresh_nodup (E : List Rw) (es : List Ed) : (fresh E es).Nodup := by
  refine snoc_ind (p := fun es => (fresh E es).Nodup) List.nodup_nil (fun l e ih => ?_) es
  rw [fresh_snoc]
  exact addF_nodup ih
theorem addF_len {E F : List Rw} {x : Rw} : (addF E F x).length ≤ F.length + 1 := by
  unfold addF
  split
  · omega
  · split
    · omega
    · rw [List.length_append]; exact Nat.le_refl _
theorem into_snoc (es : List Ed) (e : Ed) (b : Rw) : into (es ++ [e]) b = if e.2.2 = b then into es b ++ [(e.1, e.2.1)] else into es b := by
  unfold into
  rw [List.filter_append, List.map_append]
  by_cases h : e.2.2 = b
  · rw [if_pos h, List.filter_cons_of_pos (by rw [decide_eq_true h])]
    rfl
  · rw [if_neg h, List.filter_cons_of_neg (by rw [decide_eq_false h]; exact Bool.false_ne_true)]
    simp
theorem into_nil {es : List Ed} {b : Rw} (h : ∀ e ∈ es, e.2.2 ≠ b) : into es b = [] := by
  unfold into
  rw [List.filter_eq_nil_iff.mpr fun e he => by rw [decide_eq_true_iff]; exact h e he]
  rfl
theorem into_len (es : List Ed) (b : Rw) : (into es b).length ≤ es.length := by
  unfold into
  rw [List.length_map]
  exact List.length_filter_le _ _
theorem edges_snoc (S : StF) (L : List Rw) (r : Rw) : edges S (L ++ [r]) = edges S L ++ edgesR S r := by
  unfold edges
  rw [List.flatMap_append]
  simp
theorem mem_edges {S : StF} {L : List Rw} {e : Ed} : e ∈ edges S L ↔ e.1 ∈ L ∧ (e.2.1, e.2.2) ∈ S e.1 := by
  unfold edges edgesR
  rw [List.mem_flatMap]
  constructor
  · rintro ⟨r, hr, h⟩
    obtain ⟨s, hs, rfl⟩ := List.mem_map.mp h
    exact ⟨hr, hs⟩
  · rintro ⟨h1, h2⟩
    exact ⟨e.1, h1, List.mem_map.mpr ⟨_, h2, rfl⟩⟩
/-! layers -/
def layE (S : StF) (r : Rw) : Nat → List Rw × List Rw
  | 0 => ([r], [r])
  | k + 1 => (fresh (layE S r k).2 (edges S (layE S r k).1), (layE S r k).2 ++ fresh (layE S r k).2 (edges S (layE S r k).1))
def Ly (S : StF) (r : Rw) (k : Nat) : List Rw := (layE S r k).1
def Sn (S : StF) (r : Rw) (k : Nat) : List Rw := (layE S r k).2
section
variable {S : StF} {r : Rw}
theorem Ly_succ (k : Nat) : Ly S r (k + 1) = fresh (Sn S r k) (edges S (Ly S r k)) := rfl
theorem Sn_succ (k : Nat) : Sn S r (k + 1) = Sn S r k ++ Ly S r (k + 1) := rfl
theorem Ly_zero : Ly S r 0 = [r] := rfl
theorem Sn_zero : Sn S r 0 = [r] := rfl
theorem Ly_nodup : ∀ k, (Ly S r k).Nodup
  | 0 => by simp [Ly_zero]
  | k + 1 => fresh_nodup _ _
theorem Sn_nodup : ∀ k, (Sn S r k).Nodup
  | 0 => by simp [Sn_zero]
  | k + 1 => by
    rw [Sn_succ]
    refine List.nodup_append.mpr ⟨Sn_nodup k, Ly_nodup (k + 1), fun a ha b hb e => ?_⟩
    subst e
    exact (mem_fresh.mp hb).1 ha
theorem Ly_sub : ∀ k, ∀ x ∈ Ly S r k, x ∈ Sn S r k
  | 0, x, h => h
  | k + 1, x, h => by rw [Sn_succ]; exact List.mem_append_right _ h
theorem Sn_all {P : Rw → Prop} (h0 : P r) (hS : ∀ x, P x → ∀ s ∈ S x, P s.2) : ∀ k, ∀ x ∈ Sn S r k, P x
  | 0, x, h => by rw [List.mem_singleton.mp h]; exact h0
  | k + 1, x, h => by
    rw [Sn_succ] at h
    rcases List.mem_append.mp h with h | h
    · exact Sn_all h0 hS k x h
    · obtain ⟨_, e, he, rfl⟩ := mem_fresh.mp h
      obtain ⟨h1, h2⟩ := mem_edges.mp he
      exact hS e.1 (Sn_all h0 hS k _ (Ly_sub k _ h1)) _ h2
theorem Ly_all {P : Rw → Prop} (h0 : P r) (hS : ∀ x, P x → ∀ s ∈ S x, P s.2) (k : Nat) (x : Rw) (h : x ∈ Ly S r k) : P x := Sn_all h0 hS k x (Ly_sub k x h)
theorem Ly_nil {k : Nat} (h : Ly S r k = []) : Ly S r (k + 1) = [] := by
  rw [Ly_succ, h]
  rfl
theorem Ly_nil' {k : Nat} (h : Ly S r k = []) : ∀ {i : Nat}, k ≤ i → Ly S r i = [] := fun {i} hi => by
  induction i with
  | zero => rw [show k = 0 by omega] at h; exact h
  | succ i ih =>
    rcases Nat.lt_or_ge i k with h1 | h1
    · rw [show k = i + 1 by omega] at h; exact h
    · exact Ly_nil (ih h1)
theorem Sn_pre {i j : Nat} (h : i ≤ j) : ∃ M, Sn S r j = Sn S r i ++ M := by
  induction j with
  | zero => exact ⟨[], by rw [show i = 0 by omega]; simp⟩
  | succ j ih =>
    rcases Nat.lt_or_ge j i with h1 | h1
    · exact ⟨[], by rw [show i = j + 1 by omega]; simp⟩
    · obtain ⟨M, e⟩ := ih h1
      exact ⟨M ++ Ly S r (j + 1), by rw [Sn_succ, e, List.append_assoc]⟩
theorem Sn_mono {i j : Nat} (h : i ≤ j) : ∀ x ∈ Sn S r i, x ∈ Sn S r j := fun x hx => by
  obtain ⟨M, e⟩ := Sn_pre (S := S) (r := r) h
  rw [e]
  exact List.mem_append_left _ hx
theorem Sn_le {i j : Nat} (h : i ≤ j) : (Sn S r i).length ≤ (Sn S r j).length := by
  obtain ⟨M, e⟩ := Sn_pre (S := S) (r := r) h
  rw [e, List.length_append]
  omega
theorem Sn_mem : ∀ k x, x ∈ Sn S r k → ∃ i, i ≤ k ∧ x ∈ Ly S r i
  | 0, x, h => ⟨0, Nat.le_refl 0, h⟩
  | k + 1, x, h => by
    rw [Sn_succ] at h
    rcases List.mem_append.mp h with h | h
    · obtain ⟨i, hi, hx⟩ := Sn_mem k x h
      exact ⟨i, by omega, hx⟩
    · exact ⟨k + 1, Nat.le_refl _, h⟩
theorem Ly_one {x : Rw} {i j : Nat} (h1 : x ∈ Ly S r i) (h2 : x ∈ Ly S r j) : i = j := by
  have key : ∀ {i j : Nat}, i < j → x ∈ Ly S r i → x ∈ Ly S r j → False := fun {i j} hij h1 h2 => by
    obtain ⟨j, rfl⟩ : ∃ j', j = j' + 1 := ⟨j - 1, by omega⟩
    exact (mem_fresh.mp h2).1 (Sn_mono (by omega) _ (Ly_sub i x h1))
  rcases Nat.lt_trichotomy i j with h | h | h
  · exact (key h h1 h2).elim
  · exact h
  · exact (key h h2 h1).elim
theorem Sn_grow : ∀ k, (∀ i ≤ k, Ly S r i ≠ []) → k + 1 ≤ (Sn S r k).length
  | 0, _ => by rw [Sn_zero]; exact Nat.le_refl 1
  | k + 1, h => by
    have ih := Sn_grow k fun i hi => h i (by omega)
    rw [Sn_succ, List.length_append]
    have := List.length_pos_iff.mpr (h (k + 1) (Nat.le_refl _))
    omega
/-- d is the greatest distance -/
structure Dep (S : StF) (r : Rw) (d : Nat) : Prop where
  ne : ∀ i, i ≤ d → Ly S r i ≠ []
  nil : Ly S r (d + 1) = []
theorem dep_of {B : Nat} (h : ∀ k, (Sn S r k).length ≤ B) : ∃ d, Dep S r d ∧ d ≤ B := by
  have key : ∀ k, (∀ i, i ≤ k → Ly S r i ≠ []) ∨ ∃ d, d < k ∧ Dep S r d := fun k => by
    induction k with
    | zero => exact .inl fun i hi => by rw [show i = 0 by omega, Ly_zero]; exact List.cons_ne_nil _ _
    | succ k ih =>
      rcases ih with ih | ⟨d, h1, h2⟩
      · by_cases c : Ly S r (k + 1) = []
        · exact .inr ⟨k, by omega, ih, c⟩
        · refine .inl fun i hi => ?_
          rcases Nat.lt_or_ge k i with h1 | h1
          · rw [show i = k + 1 by omega]; exact c
          · exact ih i h1
      · exact .inr ⟨d, by omega, h2⟩
  rcases key B with h1 | ⟨d, h1, h2⟩
  · have := Sn_grow B h1
    have := h B
    omega
  · exact ⟨d, h2, by omega⟩
theorem Dep.sn {d : Nat} (h : Dep S r d) {k : Nat} (hk : d ≤ k) : Sn S r k = Sn S r d := by
  induction k with
  | zero => rw [show d = 0 by omega]
  | succ k ih =>
    rcases Nat.lt_or_ge k d with h1 | h1
    · rw [show d = k + 1 by omega]
    · rw [Sn_succ, Ly_nil' h.nil (by omega), List.append_nil]
      exact ih h1
end
/-- all rows of n items of A -/
def words (A : List Int) : Nat → List (List Int)
  | 0 => [[]]
  | n + 1 => A.flatMap fun a => (words A n).map (a :: ·)
theorem words_len (A : List Int) : ∀ n, (words A n).length = A.length ^ n
  | 0 => rfl
  | n + 1 => by
    have : ∀ B : List Int, (B.flatMap fun a => (words A n).map (a :: ·)).length = B.length * A.length ^ n := fun B => by
      induction B with
      | nil => simp
      | cons b B ih =>
        rw [List.flatMap_cons, List.length_append, ih, List.length_map, words_len A n, List.length_cons, Nat.succ_mul]
        omega
    show (A.flatMap fun a => (words A n).map (a :: ·)).length = _
    rw [this A, Nat.pow_succ, Nat.mul_comm]
theorem words_mem {A : List Int} : ∀ {x : List Int}, (∀ z ∈ x, z ∈ A) → x ∈ words A x.length
  | [], _ => List.mem_singleton.mpr rfl
  | a :: x, h => List.mem_flatMap.mpr ⟨a, h a List.mem_cons_self, List.mem_map.mpr ⟨x, words_mem fun z hz => h z (List.mem_cons_of_mem _ hz), rfl⟩⟩
theorem perms_len {r : Rw} {l : List Rw} (h5 : r.length ≤ 5) (nd : l.Nodup) (h : ∀ x ∈ l, x.Perm r) : l.length ≤ 3125 := by
  have := sub_len nd (D := words r r.length) fun x hx => by
    have p := h x hx
    rw [← p.length_eq]
    exact words_mem fun z hz => p.mem_iff.mp hz
  rw [words_len] at this
  have h1 : r.length ^ r.length ≤ 5 ^ r.length := Nat.pow_le_pow_left h5 _
  have h2 : 5 ^ r.length ≤ 5 ^ 5 := Nat.pow_le_pow_right (by decide) h5
  have h3 : (5 : Nat) ^ 5 = 3125 := by decide
  omega
end Y
set_option Elab.async false
set_option linter.all false
set_option maxRecDepth 100000
set_option maxHeartbeats 4000000
namespace Y
open PySem L2
/-! ### what moves do to places: one permutation for all stands -/
structure PP (n : Nat) (p q : Nat → Nat) : Prop where
  lp : ∀ i, i < n → p i < n
  lq : ∀ i, i < n → q i < n
  qp : ∀ i, i < n → q (p i) = i
  pq : ∀ i, i < n → p (q i) = i
theorem PP.id (n : Nat) : PP n (fun i => i) (fun i => i) := ⟨fun _ h => h, fun _ h => h, fun _ _ => rfl, fun _ _ => rfl⟩
theorem PP.comp {n : Nat} {p q p' q' : Nat → Nat} (a : PP n p q) (b : PP n p' q') : PP n (fun i => p (p' i)) (fun i => q' (q i)) :=
  ⟨fun i h => a.lp _ (b.lp i h), fun i h => b.lq _ (a.lq i h), fun i h => by show q' (q (p (p' i))) = i; rw [a.qp _ (b.lp i h), b.qp i h], fun i h => by show p (p' (q' (q i))) = i; rw [b.pq _ (a.lq i h), a.pq i h]⟩
/-- st' has at i what st has at p i -/
def Acts (n : Nat) (p : Nat → Nat) (st st' : List Int) : Prop := st.length = n ∧ st'.length = n ∧ ∀ i, i < n → st'.getD i 0 = st.getD (p i) 0
theorem Acts.comp {n : Nat} {p p' : Nat → Nat} {s t u : List Int} (lp : ∀ i, i < n → p' i < n) (a : Acts n p s t) (b : Acts n p' t u) : Acts n (fun i => p (p' i)) s u := ⟨a.1, b.2.1, fun i h => (b.2.2 i h).trans (a.2.2 _ (lp i h))⟩
theorem getD_range {st : List Int} : (List.range st.length).map (fun i => st.getD i 0) = st := by
  refine List.ext_getElem? fun i => ?_
  rw [List.getElem?_map]
  by_cases h : i < st.length
  · rw [List.getElem?_range h, List.getElem?_eq_getElem h]
    show some (st.getD i 0) = _
    rw [List.getD_eq_getElem?_getD, List.getElem?_eq_getElem h]
    rfl
  · rw [List.getElem?_eq_none (by rw [List.length_range]; omega), List.getElem?_eq_none (by omega)]
    rfl
theorem PP.perm {n : Nat} {p q : Nat → Nat} (h : PP n p q) : ((List.range n).map p).Perm (List.range n) := by
  refine (List.perm_ext_iff_of_nodup ?_ List.nodup_range).mpr fun i => ?_
  · refine List.pairwise_map.mpr (List.Pairwise.imp_of_mem (fun {a b} ha hb hab z => hab ?_) List.nodup_range)
    rw [← h.qp a (List.mem_range.mp ha), ← h.qp b (List.mem_range.mp hb), z]
  · rw [List.mem_map, List.mem_range]
    exact ⟨fun ⟨a, ha, e⟩ => e ▸ h.lp a (List.mem_range.mp ha), fun hi => ⟨q i, List.mem_range.mpr (h.lq i hi), h.pq i hi⟩⟩
theorem Acts.perm {n : Nat} {p q : Nat → Nat} {s t : List Int} (h : PP n p q) (a : Acts n p s t) : t.Perm s := by
  have e1 : t = ((List.range n).map p).map (fun i => s.getD i 0) := by
    rw [List.map_map]
    conv => lhs; rw [← getD_range (st := t), a.2.1]
    exact List.map_congr_left fun i hi => a.2.2 i (List.mem_range.mp hi)
  have e2 : s = (List.range n).map (fun i => s.getD i 0) := by
    conv => lhs; rw [← getD_range (st := s), a.1]
  rw [e1]
  conv => rhs; rw [e2]
  exact h.perm.map _
/-! ### one move -/
def swp (a b : Nat) (i : Nat) : Nat := if i = a then b else if i = b then a else i
theorem swp_swp {a b i : Nat} : swp a b (swp a b i) = i := by
  unfold swp
  by_cases h : i = a
  · rw [if_pos h]
    by_cases h2 : b = a
    · rw [if_pos h2]; omega
    · rw [if_neg h2, if_pos rfl, h]
  · rw [if_neg h]
    by_cases h2 : i = b
    · rw [if_pos h2, if_pos rfl, h2]
    · rw [if_neg h2, if_neg h, if_neg h2]
theorem swp_lt {n a b i : Nat} (ha : a < n) (hb : b < n) (h : i < n) : swp a b i < n := by
  unfold swp
  split
  · exact hb
  · split
    · exact ha
    · exact h
open Classical in
/-- the place of a ring j places on, where i is one of its places -/
noncomputable def rot (r : List Int) (k : Nat) (i : Nat) : Nat := if h : ∃ j, j < r.length ∧ pl r j = i then pl r ((h.choose + k) % r.length) else i
theorem rot_at {n : Nat} {r : List Int} (ok : RingOk n r) {j k : Nat} (h : j < r.length) : rot r k (pl r j) = pl r ((j + k) % r.length) := by
  have e : ∃ i, i < r.length ∧ pl r i = pl r j := ⟨j, h, rfl⟩
  unfold rot
  rw [dif_pos e, pl_inj ok e.choose_spec.1 h e.choose_spec.2]
theorem rot_off {r : List Int} {k i : Nat} (h : ∀ j, j < r.length → pl r j ≠ i) : rot r k i = i := dif_neg fun ⟨j, h1, h2⟩ => h j h1 h2
theorem rot_lt {n : Nat} {r : List Int} (ok : RingOk n r) {k i : Nat} (hi : i < n) : rot r k i < n := by
  by_cases h : ∃ j, j < r.length ∧ pl r j = i
  · obtain ⟨j, h1, rfl⟩ := h
    rw [rot_at ok h1]
    exact pl_lt ok (Nat.mod_lt _ (by omega))
  · rw [rot_off fun j h1 h2 => h ⟨j, h1, h2⟩]
    exact hi
theorem rot_rot {n : Nat} {r : List Int} (ok : RingOk n r) {k l i : Nat} (e : (k + l) % r.length = 0) : rot r k (rot r l i) = i := by
  by_cases h : ∃ j, j < r.length ∧ pl r j = i
  · obtain ⟨j, h1, rfl⟩ := h
    rw [rot_at ok h1, rot_at ok (Nat.mod_lt _ (by omega))]
    have : ((j + l) % r.length + k) % r.length = j := by
      rw [Nat.mod_add_mod, Nat.add_assoc, Nat.add_comm l k, Nat.add_mod, e, Nat.add_zero, Nat.mod_mod, Nat.mod_eq_of_lt h1]
    rw [this]
  · rw [rot_off (i := i) fun j h1 h2 => h ⟨j, h1, h2⟩, rot_off fun j h1 h2 => h ⟨j, h1, h2⟩]
noncomputable def mvP (rs : List (List Int)) : Mv → Nat → Nat
  | .slide a b => swp a.toNat b.toNat
  | .turn k => rot (rs.getD k.toNat []) ((rs.getD k.toNat []).length - 1)
noncomputable def mvQ (rs : List (List Int)) : Mv → Nat → Nat
  | .slide a b => swp a.toNat b.toNat
  | .turn k => rot (rs.getD k.toNat []) 1
theorem ring_in {rs : List (List Int)} {k : Int} (h : 0 ≤ k ∧ k < (rs.length : Int)) : rs.getD k.toNat [] ∈ rs := by
  have hk : k.toNat < rs.length := by omega
  rw [List.getD_eq_getElem?_getD, List.getElem?_eq_getElem hk]
  exact List.getElem_mem hk
theorem mv_pp {n : Nat} {ts : List (Int × Int)} {rs : List (List Int)} {m : Mv} (tok : ∀ t ∈ ts, TieOk n t) (rok : ∀ r ∈ rs, RingOk n r) (h : MvIn ts rs m) : PP n (mvP rs m) (mvQ rs m) := by
  cases m with
  | slide a b =>
    obtain ⟨a0, a1, b0, b1, _⟩ := tok _ h
    have ha : a.toNat < n := by have : a < n := a1; have : 0 ≤ a := a0; omega
    have hb : b.toNat < n := by have : b < n := b1; have : 0 ≤ b := b0; omega
    exact ⟨fun i => swp_lt ha hb, fun i => swp_lt ha hb, fun i _ => swp_swp, fun i _ => swp_swp⟩
  | turn k =>
    have ok := rok _ (ring_in h)
    have l3 := ok.2.2.1
    have e1 : (1 + ((rs.getD k.toNat []).length - 1)) % (rs.getD k.toNat []).length = 0 := by rw [show 1 + ((rs.getD k.toNat []).length - 1) = (rs.getD k.toNat []).length by omega]; exact Nat.mod_self _
    have e2 : ((rs.getD k.toNat []).length - 1 + 1) % (rs.getD k.toNat []).length = 0 := by rw [show (rs.getD k.toNat []).length - 1 + 1 = (rs.getD k.toNat []).length by omega]; exact Nat.mod_self _
    exact ⟨fun i => rot_lt ok, fun i => rot_lt ok, fun i _ => rot_rot ok e1, fun i _ => rot_rot ok e2⟩
theorem step_acts {n : Nat} {ts : List (Int × Int)} {rs : List (List Int)} {st : List Int} {m : Mv} (tok : ∀ t ∈ ts, TieOk n t) (rok : ∀ r ∈ rs, RingOk n r) (hs : st.length = n) (h : CanMv n ts rs st m) : Acts n (mvP rs m) st (stepMv rs st m) := by
  refine ⟨hs, by rw [stepMv_len, hs], fun i hi => ?_⟩
  cases m with
  | slide a b =>
    obtain ⟨_, ⟨a0, a1, b0, b1, nab⟩, _, g0⟩ := h
    have ha : a.toNat < n := by have : a < n := a1; have : 0 ≤ a := a0; omega
    have hb : b.toNat < n := by have : b < n := b1; have : 0 ≤ b := b0; omega
    have ne : a.toNat ≠ b.toNat := fun z => nab (by show a = b; have : 0 ≤ a := a0; have : 0 ≤ b := b0; omega)
    show ((st.set a.toNat 0).set b.toNat (gAt st a)).getD i 0 = st.getD (swp a.toNat b.toNat i) 0
    unfold swp
    by_cases h1 : i = b.toNat
    · subst h1
      rw [getD_set_eq (by rw [List.length_set]; omega), if_neg (Ne.symm ne), if_pos rfl]
      rfl
    · rw [getD_set_ne (Ne.symm h1)]
      by_cases h2 : i = a.toNat
      · subst h2
        rw [getD_set_eq (by omega), if_pos rfl]
        exact g0.symm
      · rw [getD_set_ne (Ne.symm h2), if_neg h2, if_neg h1]
  | turn k =>
    have ok := rok _ (ring_in h)
    show (turn1 (rs.getD k.toNat []) st).getD i 0 = st.getD (rot (rs.getD k.toNat []) ((rs.getD k.toNat []).length - 1) i) 0
    by_cases c : ∃ j, j < (rs.getD k.toNat []).length ∧ pl (rs.getD k.toNat []) j = i
    · obtain ⟨j, h1, rfl⟩ := c
      rw [turn1_ring ok hs h1, rot_at ok h1]
    · have off : ∀ j, j < (rs.getD k.toNat []).length → pl (rs.getD k.toNat []) j ≠ i := fun j h1 h2 => c ⟨j, h1, h2⟩
      rw [turn1_off ok hs off, rot_off off]
/-! ### rows of moves -/
noncomputable def msP (rs : List (List Int)) : List Mv → Nat → Nat
  | [], i => i
  | m :: l, i => mvP rs m (msP rs l i)
noncomputable def msQ (rs : List (List Int)) : List Mv → Nat → Nat
  | [], i => i
  | m :: l, i => msQ rs l (mvQ rs m i)
theorem ms_pp {n : Nat} {ts : List (Int × Int)} {rs : List (List Int)} (tok : ∀ t ∈ ts, TieOk n t) (rok : ∀ r ∈ rs, RingOk n r) : ∀ {l : List Mv}, (∀ m ∈ l, MvIn ts rs m) → PP n (msP rs l) (msQ rs l)
  | [], _ => PP.id n
  | m :: l, h => (mv_pp tok rok (h m List.mem_cons_self)).comp (ms_pp tok rok fun x hx => h x (List.mem_cons_of_mem _ hx))
theorem play_acts {n : Nat} {ts : List (Int × Int)} {rs : List (List Int)} (tok : ∀ t ∈ ts, TieOk n t) (rok : ∀ r ∈ rs, RingOk n r) : ∀ {l : List Mv} {st : List Int}, st.length = n → CanAll n ts rs st l → Acts n (msP rs l) st (playMvs rs st l)
  | [], st, hs, _ => ⟨hs, hs, fun _ _ => rfl⟩
  | m :: l, st, hs, h => by
    have a := step_acts tok rok hs h.1
    have b := play_acts tok rok (l := l) (by rw [stepMv_len, hs]) h.2
    have pp := ms_pp tok rok (l := l) (fun x hx => can_mvIn h.2 x hx)
    exact Acts.comp (p' := msP rs l) pp.lp a b
/-- two stands filled at the same places -/
def Zeq (n : Nat) (s t : List Int) : Prop := s.length = n ∧ t.length = n ∧ (∀ z ∈ s, 0 ≤ z) ∧ (∀ z ∈ t, 0 ≤ z) ∧ ∀ i, i < n → (s.getD i 0 = 0 ↔ t.getD i 0 = 0)
theorem Zeq.acts {n : Nat} {p q : Nat → Nat} {s t s' t' : List Int} (pp : PP n p q) (z : Zeq n s t) (a : Acts n p s s') (b : Acts n p t t') : Zeq n s' t' :=
  ⟨a.2.1, b.2.1, fun x hx => z.2.2.1 x ((a.perm pp).mem_iff.mp hx), fun x hx => z.2.2.2.1 x ((b.perm pp).mem_iff.mp hx), fun i hi => by rw [a.2.2 i hi, b.2.2 i hi]; exact z.2.2.2.2 _ (pp.lp i hi)⟩
theorem getD_pos {st : List Int} (h : ∀ z ∈ st, 0 ≤ z) (i : Nat) : 0 ≤ st.getD i 0 := by
  rw [List.getD_eq_getElem?_getD]
  cases e : st[i]? with
  | none => exact Int.le_refl 0
  | some z => exact h z (List.mem_of_getElem? e)
theorem Zeq.can {n : Nat} {ts : List (Int × Int)} {rs : List (List Int)} {s t : List Int} {m : Mv} (z : Zeq n s t) (h : CanMv n ts rs s m) : CanMv n ts rs t m := by
  cases m with
  | turn k => exact h
  | slide a b =>
    obtain ⟨h1, h2, h3, h4⟩ := h
    obtain ⟨a0, a1, b0, b1, nab⟩ := h2
    have ha : a.toNat < n := by have : a < n := a1; have : 0 ≤ a := a0; omega
    have hb : b.toNat < n := by have : b < n := b1; have : 0 ≤ b := b0; omega
    refine ⟨h1, ⟨a0, a1, b0, b1, nab⟩, ?_, (z.2.2.2.2 _ hb).mp h4⟩
    have p := getD_pos z.2.2.2.1 a.toNat
    have q : ¬ t.getD a.toNat 0 = 0 := fun e => by
      have := (z.2.2.2.2 _ ha).mpr e
      unfold gAt at h3
      omega
    show 0 < t.getD a.toNat 0
    omega
theorem Zeq.canAll {n : Nat} {ts : List (Int × Int)} {rs : List (List Int)} (tok : ∀ t ∈ ts, TieOk n t) (rok : ∀ r ∈ rs, RingOk n r) : ∀ {l : List Mv} {s t : List Int}, Zeq n s t → CanAll n ts rs s l → CanAll n ts rs t l
  | [], _, _, _, _ => trivial
  | m :: l, s, t, z, h => by
    have c := z.can h.1
    exact ⟨c, Zeq.canAll tok rok (z.acts (mv_pp tok rok (can_in c)) (step_acts tok rok z.1 h.1) (step_acts tok rok z.2.1 c)) h.2⟩
end Y
set_option Elab.async false
set_option linter.all false
set_option maxRecDepth 100000
set_option maxHeartbeats 2000000
namespace Y
open PySem L2
/-! ### steps_from -/
theorem call_tuple_ofK {X : Cx} {K : PySem.W.Frag} (e : X.K = K) : CallR X (.type "tuple") (fun xs H Q => ∃ p ys, xs = [.ref p] ∧ ((SqL K H p ys ∧ ∀ l, H l = none → Q (.ref l) (upd H l (.tup ys))) ∨ (SqT K H p ys ∧ Q (.ref p) H))) := by
  subst e
  exact call_tuple_of
abbrev sStepsF : Stmt := top 22
def stepsV (ts : List (Int × Int)) (rs : List (List Int)) : StF := fun st => (movesOf ts rs st).map fun m => (m, stepMv rs st m)
theorem moves_eq {n : Nat} {ts : List (Int × Int)} {rs : List (List Int)} {st : List Int} (tok : ∀ t ∈ ts, TieOk n t) (hl : st.length = n) (h0 : ∀ z ∈ st, 0 ≤ z) : movesR ts rs (filL st) = movesOf ts rs st := by
  have key : ∀ a : Int, 0 ≤ a → a < n → (a ∈ filL st ↔ gAt st a ≠ 0) := fun a h1 h2 => by
    unfold filL
    rw [filTo_mem]
    unfold gAt
    constructor
    · rintro ⟨i, rfl, h3, h4⟩
      exact h4
    · exact fun h => ⟨a.toNat, by omega, by omega, h⟩
  have e : ts.filter (canR (filL st)) = ts.filter (canSlide st) := List.filter_congr fun t ht => by
    obtain ⟨a0, a1, b0, b1, _⟩ := tok t ht
    unfold canR canSlide
    have p : 0 ≤ gAt st t.1 := h0 _ (getD_mem (by omega))
    have e1 : decide (t.1 ∈ filL st) = decide (0 < gAt st t.1) := decide_eq_decide.mpr ((key _ a0 a1).trans ⟨fun h => by omega, fun h => by omega⟩)
    have e2 : (!decide (t.2 ∈ filL st)) = decide (gAt st t.2 = 0) := by
      by_cases c : gAt st t.2 = 0
      · rw [decide_eq_true c, decide_eq_false fun z => (key _ b0 b1).mp z c]; rfl
      · rw [decide_eq_false c, decide_eq_true ((key _ b0 b1).mpr c)]; rfl
    rw [e1, e2]
  unfold movesR movesOf
  rw [e]
theorem steps_len {n : Nat} {ts : List (Int × Int)} {rs : List (List Int)} (yp : YP n ts rs) (st : List Int) : (stepsV ts rs st).length ≤ 120 := by
  unfold stepsV movesOf turns
  have h1 := List.length_filter_le (canSlide st) ts
  have h2 := yp.tl
  have h3 := yp.rl
  rw [List.length_map, List.length_append, List.length_map, List.length_map, List.length_range]
  omega
def spStepsF (K : PySem.W.Frag) : Sp := fun vs H Q _ => ∃ (x : Addr) (y : V) (n : Nat) (ts : List (Int × Int)) (rs : List (List Int)) (st : List Int), vs = [.ref x, y] ∧ YObj K H x n ts rs ∧ YP n ts rs ∧ RowV H y st ∧ st.length = n ∧ (∀ z ∈ st, 0 ≤ z) ∧
  ∀ l ys H', H l = none → H' l = some (.lst ys) → Paired (StepV K H') ys (stepsV ts rs st) → Same H H' → Q (.ref l) H'
section
variable {P : Program} {w : World} {K : PySem.W.Frag} {mg : Str → Option Value} {base : Heap} {fUn fMA fFld fBeh : Addr}
theorem scStepsF : FnScope ["yard", "stand", "moves", "move"] ["yard", "stand"] (defScope sStepsF) := ⟨rfl, rfl, rfl, by decide +kernel, rfl, by decide +kernel, by decide +kernel⟩
theorem ok_stepsF {f : Addr} {fd fdM fdF fdB : FuncData} (F : Fun K "steps_from" "steps_from" sStepsF f fd) (T : TR K mg fUn) (gM : mg "moves_at" = some (.ref fMA)) (gF : mg "filled" = some (.ref fFld)) (gB : mg "behind_move" = some (.ref fBeh))
    (GM : FnOk P w K mg base CX0 5 fMA fdM ["yard", "row"] (spMovesAt K)) (FM : Fun K "moves_at" "moves_at" sMovesAt fMA fdM) (bM : Binds K fdM ["yard", "row"] [])
    (GF : FnOk P w K mg base CX0 1 fFld fdF ["stand"] (spFilT K)) (FF : Fun K "filled" "filled" sFilled fFld fdF) (bF : Binds K fdF ["stand"] [])
    (GB : FnOk P w K mg base CX0 1 fBeh fdB ["yard", "stand", "move"] (spBehind K)) (FB : Fun K "behind_move" "behind_move" sBehind fBeh fdB) (bB : Binds K fdB ["yard", "stand", "move"] []) :
    FnOk P w K mg base CX0 6 f fd ["yard", "stand"] (spStepsF K) := by
  refine F.ok scStepsF (fun vs H Q E h => ?_) (fun cdv A outer s H vs Q E hr h => ?_)
  · obtain ⟨x, y, n, ts, rs, st, rfl, _⟩ := h
    rfl
  · obtain ⟨x, y, n, ts, rs, st, rfl, hy, yp, ⟨rb, rfl, hb⟩, hl, h0, k⟩ := h
    have hr1 : Room 1 _ := hr.mono (by decide)
    refine ⟨_, pss_cons (ps_set (i := 2) scStepsF.nd rfl (Or.inl rfl)
        (pe_call GM hr (by rfl) gM FM.kp bM .nil pass0 (pa_cons (pv 0) (pa_cons (pe_call GF hr1 (by rfl) gF FF.kp bF .nil pass0 (pa_cons (pv 1) pa_nil)) pa_nil))))
      (pss_one (ps_ret (pe_lc (own := [("move", 3)]) (g := gName 3) (tt := tYes) rfl scStepsF.nd (pi_tup (pv 2)) (blkOk_by (N := ["yard", "stand", "moves", "move"]) (sc := defScope sStepsF) (by decide +kernel))
          (fun _ _ _ _ _ => pg_name (i := 3) scStepsF.nd rfl (Or.inl rfl)) (fun _ _ _ _ _ => pts_nil)
          (fun _ _ _ _ _ => pe_tup (pa_cons (pv 3) (pa_cons (pe_callTy (call_tuple_ofK (K := K) rfl) (by rfl) T.i.tuple (by decide +kernel) (pa_cons (pe_call GB hr1 (by rfl) gB FB.kp bB .nil pass0 (pa_cons (pv 0) (pa_cons (pv 1) (pa_cons (pv 3) pa_nil)))) pa_nil)) pa_nil)))))), ?_⟩
    have n60 := yp.n60
    have tok := yp.tok
    refine ⟨_, rfl, _, rfl, rb, st, rfl, .inr (SqT.of hb), by omega, fun t1 H1 et1 s1 => ?_⟩
    refine ⟨x, _, n, ts, rs, filL st, rfl, hy.kp (.of_same s1), ⟨t1, rfl, .inr (SqT.of et1)⟩, by have := fil_ok st; rwa [hl] at this, n60, Nat.le_trans yp.tl (by decide), Nat.le_trans yp.rl (by decide), fun t ms H2 ht hms s2 => ?_⟩
    refine gset_go (σ' := [some (.ref x), some (.ref rb), some (.ref t), none]) rfl ?_
    dsimp only
    rw [moves_eq tok hl h0] at hms
    have s12 := s1.trans s2
    refine ⟨_, rfl, t, rfl, ⟨_, ht⟩, fun D2 hD2 => ?_⟩
    refine lc_tup (K := K) (a := t) (xs := ms) (fun i H' => ∃ ys, H' D2 = some (.lst ys) ∧ Paired (StepV K H') ys ((stepsV ts rs st).take i) ∧ ys.length = i ∧ Same H2 H') ⟨[], upd_same, .nil, rfl, Same.new hD2⟩ (fun i H' _ ⟨_, _, _, _, s⟩ => Same.seqT s ht) (fun i v H3 hv h => ?_) (fun H3 h => ?_)
    · obtain ⟨ys, eY, py, ly, s3⟩ := h
      obtain ⟨m, em, hm⟩ := par_get hms hv
      have hmem := List.mem_of_getElem? em
      have hi : i < (movesOf ts rs st).length := (List.getElem?_eq_some_iff.mp em).1
      have hlen := steps_len yp st
      unfold stepsV at hlen
      rw [List.length_map] at hlen
      have hy3 := hy.kp (.of_same (s12.trans s3))
      have hm3 := hm.kp (.of_same s3)
      have c := can_of_mem (n := n) tok hmem
      refine ⟨rfl, ?_⟩
      refine ⟨_, rfl, _, rfl, _, rfl, _, rfl, x, rb, _, n, ts, rs, st, m, rfl, hy3, by omega, yp.rok, .inr (SqT.of ((s12.trans s3) _ _ hb)), hl, hm3, c, fun l H4 el s4 => ?_⟩
      refine ⟨l, _, rfl, .inl ⟨SqL.of el, fun t' nt' => ?_⟩⟩
      have st' := Same.new (o := .tup ((stepMv rs st m).map V.int)) nt'
      have et : (upd H4 t' (.tup ((stepMv rs st m).map V.int))) t' = some (.tup ((stepMv rs st m).map V.int)) := upd_same
      generalize upd H4 t' (.tup ((stepMv rs st m).map V.int)) = H5 at st' et ⊢
      refine ⟨(by show 2 ≤ sizeLine; decide), fun q nq => ?_⟩
      have sq := Same.new (o := .tup [v, .ref t']) nq
      have s35 := (s4.trans st').trans sq
      have eY5 := s35 _ _ eY
      refine ⟨ys, eY5, by rw [ly]; exact Nat.lt_of_lt_of_le (by omega : i < 121) (by decide), ys ++ [.ref q], upd_same, ?_, by rw [List.length_append, ly]; rfl, Same.upd_new (s3.trans s35) hD2⟩
      have e1 : (stepsV ts rs st)[i]? = some (m, stepMv rs st m) := by
        unfold stepsV
        rw [List.getElem?_map, em]
        rfl
      rw [take_next e1]
      have keepY : ∀ y s, StepV K H3 y s → StepV K (upd (upd H5 q (.tup [v, .ref t'])) D2 (.lst (ys ++ [.ref q]))) y s := fun y s h => by
        obtain ⟨t1, m1, b1, rfl, h1, h2, b2, rfl, h3⟩ := h.same s35
        have ne : ∀ {b : Addr} {xs : List V}, (upd H5 q (.tup [v, .ref t'])) b = some (.tup xs) → b ≠ D2 := fun e => ne_of e eY5 (by intro z; cases z)
        exact ⟨t1, m1, _, rfl, by rw [upd_ne (ne h1)]; exact h1, h2.off eY5, b2, rfl, by rw [upd_ne (ne h3)]; exact h3⟩
      have qD : q ≠ D2 := ne_of (upd_same (H := H5) (a := q) (o := .tup [v, .ref t'])) eY5 (by intro z; cases z)
      have tD : t' ≠ D2 := ne_of (sq _ _ et) eY5 (by intro z; cases z)
      exact par_snoc (par_map keepY py) ⟨q, v, .ref t', rfl, by rw [upd_ne qD]; exact upd_same, ((hm3.kp (.of_same s35))).off eY5, t', rfl, by rw [upd_ne tD]; exact sq _ _ et⟩
    · obtain ⟨ys, eY, py, ly, s3⟩ := h
      have lm : ms.length = (stepsV ts rs st).length := by
        unfold stepsV
        rw [List.length_map]
        exact Paired.length hms
      rw [lm, List.take_length] at py
      exact k D2 ys H3 (Same.none s12 hD2) eY py (s12.trans s3)
end
end Y
set_option Elab.async false
set_option linter.all false
set_option maxRecDepth 100000
set_option maxHeartbeats 4000000
namespace Y
open PySem L2
/-! ### layer_behind -/
abbrev sLb : Stmt := top 23
abbrev NLb : List Str := ["yard", "layer", "seen", "found", "stand", "move", "behind"]
abbrev Pr := Rw × Mv
/-- a tuple (stand, move) -/
def PairV (K : PySem.W.Frag) (H : Hp) (v : V) (p : Pr) : Prop := ∃ t a m, v = .ref t ∧ H t = some (.tup [a, m]) ∧ RowV H a p.1 ∧ MvAt K H m p.2
/-- a list of such -/
def PairsV (K : PySem.W.Frag) (H : Hp) (v : V) (z : List Pr) : Prop := ∃ l ys, v = .ref l ∧ H l = some (.lst ys) ∧ Paired (PairV K H) ys z
def OffL (N : Addr → Prop) (kvs : List (List Key × V)) : Prop := ∀ kv ∈ kvs, ∃ l, kv.2 = V.ref l ∧ N l
/-- the keys of a dict by rows -/
abbrev KeysD (kvs : List (List Key × V)) (E : List Rw) : Prop := Paired (fun kv r => kv.1 = keyR r) kvs E
def layP (E : List Rw) (es : List Ed) : List (Rw × List Pr) := (fresh E es).map fun b => (b, into es b)
/-- tuples stand, locked or not -/
def KpQ (H H' : Hp) : Prop := (∀ b xs, H b = some (.tup xs) → H' b = some (.tup xs)) ∧ ∀ b o xs, H b = some (.frz o (.tup xs)) → H' b = some (.frz o (.tup xs))
section
variable {K : PySem.W.Frag} {H H' : Hp}
theorem KpT.q (s : KpT H H') : KpQ H H' := ⟨fun b xs e => s.tup e, fun b o xs e => s b _ e (fun _ z => by cases z) (fun _ z => by cases z) fun _ z => by cases z⟩
theorem KpQ.of_same (s : Same H H') : KpQ H H' := (KpT.of_same s).q
theorem KpQ.but {d : Addr} {od : Obj} {kvs : List (List Key × V)} (hd : H d = some (.frz od (.dT kvs))) (h : ∀ b o, b ≠ d → H b = some o → H' b = some o) : KpQ H H' :=
  ⟨fun b xs e => h b _ (ne_of e hd (by intro z; cases z)) e, fun b o xs e => h b _ (ne_of e hd (by intro z; cases z)) e⟩
theorem KpQ.seqT {a : Addr} {xs : List V} (s : KpQ H H') (h : SqT K H a xs) : SqT K H' a xs := by
  rcases h with (h | ⟨o, h⟩) | h
  · exact .inl (.inl (s.1 _ _ h))
  · exact .inl (.inr ⟨o, s.2 _ _ _ h⟩)
  · exact .inr h
theorem KpQ.mv {y : V} {m : Mv} (s : KpQ H H') (h : MvAt K H y m) : MvAt K H' y m := by
  obtain ⟨b, e, h⟩ := h
  exact ⟨b, e, s.seqT h⟩
theorem KpQ.row {v : V} {r : List Int} (s : KpQ H H') (h : RowV H v r) : RowV H' v r := h.kp fun b xs e => s.1 _ _ e
end
theorem PairV.kp {K : PySem.W.Frag} {H H' : Hp} {v : V} {p : Pr} (s : KpQ H H') (h : PairV K H v p) : PairV K H' v p := by
  obtain ⟨t, a, m, rfl, h1, h2, h3⟩ := h
  exact ⟨t, a, m, rfl, s.1 _ _ h1, s.row h2, s.mv h3⟩
theorem OffL.mono {N N' : Addr → Prop} {kvs : List (List Key × V)} (h : OffL N kvs) (f : ∀ l, N l → N' l) : OffL N' kvs := fun kv hk => by
  obtain ⟨l, e, n⟩ := h kv hk
  exact ⟨l, e, f l n⟩
theorem KVs.keysD {α : Type} {F : V → α → Prop} {kvs : List (List Key × V)} {ps : List (Rw × α)} (h : KVs F kvs ps) : KeysD kvs (ps.map (·.1)) := by
  induction h with
  | nil => exact .nil
  | cons a _ ih => exact .cons a.1 ih
theorem KeysD.kvs {kvs : List (List Key × V)} {E : List Rw} (h : KeysD kvs E) : KVs (fun _ (_ : Unit) => True) kvs (E.map fun r => (r, ())) := by
  induction h with
  | nil => exact .nil
  | cons a _ ih => exact .cons ⟨a, trivial⟩ ih
theorem KeysD.some_iff {kvs : List (List Key × V)} {E : List Rw} (h : KeysD kvs E) (nd : E.Nodup) {r : Rw} : (valV kvs (keyR r)).isSome = decide (r ∈ E) := by
  have e : (E.map fun r => (r, ())).map (·.1) = E := by rw [List.map_map]; exact List.map_id E
  have := h.kvs.some_iff (r := r) (by rw [e]; exact nd)
  rwa [e] at this
/-- lists that stand -/
theorem PairsV.kp {K : PySem.W.Frag} {H H' : Hp} {v : V} {z : List Pr} (s : KpQ H H') (h : PairsV K H v z) (k : ∀ l xs, v = .ref l → H l = some (.lst xs) → H' l = some (.lst xs)) : PairsV K H' v z := by
  obtain ⟨l, ys, rfl, h1, h2⟩ := h
  exact ⟨l, ys, rfl, k l ys rfl h1, par_map (fun _ _ h => h.kp s) h2⟩
theorem KVs.kpO {K : PySem.W.Frag} {H H' : Hp} {kvs : List (List Key × V)} {ps : List (Rw × List Pr)} {N : Addr → Prop} (s : KpQ H H') (h : KVs (PairsV K H) kvs ps) (o : OffL N kvs) (k : ∀ l xs, N l → H l = some (.lst xs) → H' l = some (.lst xs)) : KVs (PairsV K H') kvs ps := by
  induction h with
  | nil => exact .nil
  | cons a _ ih =>
    refine .cons ⟨a.1, a.2.kp s fun l xs e hl => ?_⟩ (ih fun kv hk => o kv (List.mem_cons_of_mem _ hk))
    obtain ⟨l', e', n⟩ := o _ List.mem_cons_self
    rw [e] at e'
    cases e'
    exact k l xs n hl
theorem valV_mem2 {k : List Key} {v : V} : ∀ {kvs : List (List Key × V)}, valV kvs k = some v → v ∈ kvs.map (·.2)
  | [], h => by cases h
  | a :: r, h => by
    by_cases c : a.1 = k
    · rw [valV_pos c] at h
      rw [← Option.some.inj h]
      exact List.mem_cons_self
    · rw [valV_neg c] at h
      exact List.mem_cons_of_mem _ (valV_mem2 h)
/-- an item more in one of the lists -/
theorem KVs.app {K : PySem.W.Frag} {H : Hp} {l : Addr} {ys : List V} {q : V} {p : Pr} {b : Rw} (hl : H l = some (.lst ys)) (hq : PairV K H q p) : ∀ {kvs : List (List Key × V)} {ps : List (Rw × List Pr)}, KVs (PairsV K H) kvs ps → (ps.map (·.1)).Nodup → (kvs.map (·.2)).Nodup →
    valV kvs (keyR b) = some (.ref l) → KVs (PairsV K (upd H l (.lst (ys ++ [q])))) kvs (ps.map fun e => (e.1, if e.1 = b then e.2 ++ [p] else e.2))
  | _, _, .nil, _, _, _ => .nil
  | kv :: kvs, e :: ps, .cons a t, nd, nv, hv => by
    have kp := (KpT.lst (o := .lst (ys ++ [q])) hl).q
    have n1 := List.nodup_cons.mp (show (e.1 :: ps.map (·.1)).Nodup from nd)
    have n2 := List.nodup_cons.mp (show (kv.2 :: kvs.map (·.2)).Nodup from nv)
    have stay : ∀ {v : V} {z : List Pr}, v ≠ .ref l → PairsV K H v z → PairsV K (upd H l (.lst (ys ++ [q]))) v z := fun {v z} hn h => h.kp kp fun l' xs e1 e2 => by
      rw [upd_ne (fun z => hn (by rw [e1, z]))]
      exact e2
    by_cases c : e.1 = b
    · rw [valV_pos (by rw [a.1, c])] at hv
      have ev : kv.2 = .ref l := Option.some.inj hv
      have rest : ∀ {kvs : List (List Key × V)} {ps : List (Rw × List Pr)}, KVs (PairsV K H) kvs ps → b ∉ ps.map (·.1) → V.ref l ∉ kvs.map (·.2) → KVs (PairsV K (upd H l (.lst (ys ++ [q])))) kvs (ps.map fun e => (e.1, if e.1 = b then e.2 ++ [p] else e.2)) := fun {kvs ps} h => by
        induction h with
        | nil => exact fun _ _ => .nil
        | @cons kv e _ _ a _ ih =>
          intro h1 h2
          rw [List.map_cons, List.mem_cons, not_or] at h1 h2
          refine .cons ⟨a.1, ?_⟩ (ih h1.2 h2.2)
          show PairsV K _ kv.2 (if e.1 = b then e.2 ++ [p] else e.2)
          rw [if_neg (Ne.symm h1.1)]
          exact stay (Ne.symm h2.1) a.2
      refine .cons ⟨a.1, ?_⟩ (rest t (by rw [← c]; exact n1.1) (by rw [← ev]; exact n2.1))
      show PairsV K _ kv.2 (if e.1 = b then e.2 ++ [p] else e.2)
      rw [if_pos c]
      obtain ⟨l', ys', e1, e2, e3⟩ := a.2
      rw [ev] at e1
      cases e1
      rw [hl] at e2
      cases e2
      exact ⟨l, _, ev, upd_same, par_snoc (par_map (fun _ _ h => h.kp kp) e3) (hq.kp kp)⟩
    · rw [valV_neg fun z => c (keyR_inj (a.1.symm.trans z))] at hv
      refine .cons ⟨a.1, ?_⟩ (KVs.app hl hq t n1.2 n2.2 hv)
      show PairsV K _ kv.2 (if e.1 = b then e.2 ++ [p] else e.2)
      rw [if_neg c]
      refine stay (fun z => n2.1 ?_) a.2
      rw [z]
      exact valV_mem2 hv
theorem layP_in {E : List Rw} {es : List Ed} {e : Ed} (h : e.2.2 ∈ E) : layP E (es ++ [e]) = layP E es := by
  have e1 : fresh E (es ++ [e]) = fresh E es := by
    rw [fresh_snoc]
    unfold addF
    rw [if_pos h]
  unfold layP
  rw [e1]
  refine List.map_congr_left fun b hb => ?_
  rw [into_snoc, if_neg fun z => (mem_fresh.mp hb).1 (by rw [← z]; exact h)]
theorem layP_there {E : List Rw} {es : List Ed} {e : Ed} (h : e.2.2 ∉ E) (h2 : e.2.2 ∈ fresh E es) : layP E (es ++ [e]) = (layP E es).map fun u => (u.1, if u.1 = e.2.2 then u.2 ++ [(e.1, e.2.1)] else u.2) := by
  have e1 : fresh E (es ++ [e]) = fresh E es := by
    rw [fresh_snoc]
    unfold addF
    rw [if_neg h, if_pos h2]
  unfold layP
  rw [e1, List.map_map]
  refine List.map_congr_left fun b hb => ?_
  show (b, into (es ++ [e]) b) = (b, if b = e.2.2 then into es b ++ [(e.1, e.2.1)] else into es b)
  rw [into_snoc]
  by_cases c : e.2.2 = b
  · rw [if_pos c, if_pos c.symm]
  · rw [if_neg c, if_neg (Ne.symm c)]
theorem layP_new {E : List Rw} {es : List Ed} {e : Ed} (h : e.2.2 ∉ E) (h2 : e.2.2 ∉ fresh E es) : layP E (es ++ [e]) = (layP E es ++ [(e.2.2, [])]).map fun u : Rw × List Pr => (u.1, if u.1 = e.2.2 then u.2 ++ [(e.1, e.2.1)] else u.2) := by
  have e1 : fresh E (es ++ [e]) = fresh E es ++ [e.2.2] := by
    rw [fresh_snoc]
    unfold addF
    rw [if_neg h, if_neg h2]
  have e0 : into es e.2.2 = [] := into_nil fun u hu z => h2 (mem_fresh.mpr ⟨h, u, hu, z⟩)
  unfold layP
  rw [e1, List.map_append, List.map_append, List.map_map]
  have e2 : (fresh E es).map (fun b => (b, into (es ++ [e]) b)) = (fresh E es).map ((fun u : Rw × List Pr => (u.1, if u.1 = e.2.2 then u.2 ++ [(e.1, e.2.1)] else u.2)) ∘ fun b => (b, into es b)) := by
    refine List.map_congr_left fun b hb => ?_
    show (b, into (es ++ [e]) b) = (b, if b = e.2.2 then into es b ++ [(e.1, e.2.1)] else into es b)
    rw [into_snoc]
    by_cases c : e.2.2 = b
    · rw [if_pos c, if_pos c.symm]
    · rw [if_neg c, if_neg (Ne.symm c)]
  rw [e2]
  show _ ++ [(e.2.2, into (es ++ [e]) e.2.2)] = _ ++ [(e.2.2, if e.2.2 = e.2.2 then [] ++ [(e.1, e.2.1)] else [])]
  rw [into_snoc, if_pos rfl, if_pos rfl, e0]
theorem layP_keys (E : List Rw) (es : List Ed) : (layP E es).map (·.1) = fresh E es := by
  unfold layP
  rw [List.map_map]
  exact List.map_id _
theorem edges_len {S : StF} {m : Nat} : ∀ {L : List Rw}, (∀ r ∈ L, (S r).length ≤ m) → (edges S L).length ≤ L.length * m
  | [], _ => Nat.zero_le _
  | r :: L, h => by
    have ih := edges_len (L := L) fun x hx => h x (List.mem_cons_of_mem _ hx)
    have h1 := h r List.mem_cons_self
    show (edgesR S r ++ edges S L).length ≤ _
    rw [List.length_append, List.length_cons, Nat.succ_mul]
    unfold edgesR
    rw [List.length_map]
    omega
theorem steps_perm {n : Nat} {ts : List (Int × Int)} {rs : List (List Int)} {st : List Int} (yp : YP n ts rs) (hl : st.length = n) : ∀ s ∈ stepsV ts rs st, s.2.Perm st := fun s hs => by
  unfold stepsV at hs
  obtain ⟨m, hm, rfl⟩ := List.mem_map.mp hs
  have c := can_of_mem (n := n) yp.tok hm
  exact (step_acts yp.tok yp.rok hl c).perm (mv_pp yp.tok yp.rok (can_in c))
def spLb (K : PySem.W.Frag) : Sp := fun vs H Q _ => ∃ (x d e : Addr) (n : Nat) (ts : List (Int × Int)) (rs : List (List Int)) (kvd kve : List (List Key × V)) (L E : List Rw) (r0 : Rw), vs = [.ref x, .ref d, .ref e] ∧ YObj K H x n ts rs ∧ YP n ts rs ∧ H d = some (.dT kvd) ∧ KeysD kvd L ∧
  H e = some (.dT kve) ∧ KeysD kve E ∧ E.Nodup ∧ d ≠ e ∧ r0.length = n ∧ n ≤ 5 ∧ (∀ z ∈ r0, 0 ≤ z) ∧ (∀ y ∈ L, y.Perm r0) ∧ L.length ≤ 3125 ∧
  ∀ g kvg H', H g = none → H' g = some (.dT kvg) → KVs (PairsV K H') kvg (layP E (edges (stepsV ts rs) L)) → OffL (fun l => H l = none) kvg → Same H H' → Q (.ref g) H'
theorem but_kpT {d : Addr} {kvs : List (List Key × V)} {H H' : Hp} (h : ∀ b o, b ≠ d → H b = some o → H' b = some o) (hd : H d = some (.dT kvs)) : KpT H H' := fun b o e _ n2 _ => h b o (fun z => by rw [z, hd] at e; exact n2 _ (Option.some.inj e).symm) e
section
variable {P : Program} {w : World} {K : PySem.W.Frag} {mg : Str → Option Value} {base : Heap} {fSF : Addr}
theorem scLb : FnScope NLb ["yard", "layer", "seen"] (defScope sLb) := ⟨rfl, rfl, rfl, by decide +kernel, rfl, by decide +kernel, by decide +kernel⟩
theorem ok_lb {f : Addr} {fd fdS : FuncData} (F : Fun K "layer_behind" "layer_behind" sLb f fd) (gS : mg "steps_from" = some (.ref fSF)) (GS : FnOk P w K mg base CX0 6 fSF fdS ["yard", "stand"] (spStepsF K)) (FS : Fun K "steps_from" "steps_from" sStepsF fSF fdS) (bS : Binds K fdS ["yard", "stand"] []) :
    FnOk P w K mg base CX0 7 f fd ["yard", "layer", "seen"] (spLb K) := by
  refine F.ok scLb (fun vs H Q E h => ?_) (fun cdv A outer s H vs Q E hr h => ?_)
  · obtain ⟨x, d, e, n, ts, rs, kvd, kve, L, E, r0, rfl, _⟩ := h
    rfl
  · obtain ⟨x, d, e, n, ts, rs, kvd, kve, L, E, r0, rfl, hy, yp, hd, kd, he, ke, ndE, de, l0, n5, p0, pL, lL, k⟩ := h
    have hu := hu_of hr
    refine ⟨_, pss_cons (ps_set (i := 3) scLb.nd rfl (Or.inl rfl) pe_dnewT)
      (pss_cons (ps_lock (ps_for PassesOwn.never rfl (pi_keys (pv 1)) (pg_name (i := 4) scLb.nd rfl (Or.inl rfl))
        (pss_one (ps_for PassesOwn.never rfl (pi_list (pe_call GS hr (by rfl) gS FS.kp bS .nil pass0 (pa_cons (pv 0) (pa_cons (pv 4) pa_nil)))) (pg_tup rfl (pgs_cons (pg_name (i := 5) scLb.nd rfl (Or.inl rfl)) (pgs_cons (pg_name (i := 6) scLb.nd rfl (Or.inl rfl)) pgs_nil)))
          (pss_one (ps_if (pt_cmp (pc_dnotin hu (pv 6) (pv 2)))
            (pss_one (ps_expr (pe_bm PySem.F.plainAttrs_list PySem.F.slot_list_append PySem.F.type_list_append mt_append (pe_dsetT hu (pv 3) (pv 6) (pe_lst pa_nil) ⟨rfl, rfl, rfl, rfl⟩) (pa_cons (pe_tup (pa_cons (pv 4) (pa_cons (pv 5) pa_nil))) pa_nil))))
            pss_nil))))))
      (pss_one (ps_ret (pv 3)))), ?_⟩
    refine fun g ng => gset_go (σ' := [some (.ref x), some (.ref d), some (.ref e), some (.ref g), none, none, none]) rfl ?_
    dsimp only
    have s1 := Same.new (o := .dT []) ng
    have hd1 := s1 _ _ hd
    have eg1 : (upd H g (.dT [])) g = some (.dT []) := upd_same
    have ngd : g ≠ d := Ne.symm (ne_of_none hd ng)
    have nge : g ≠ e := Ne.symm (ne_of_none he ng)
    generalize upd H g (.dT []) = H1 at s1 hd1 eg1 ⊢
    refine ⟨d, .dT kvd, hd1, trivial, fun od => ?_⟩
    refine ⟨_, rfl, d, od, rfl, .inr ⟨kvd, upd_same, ?_⟩⟩
    have b1 : ∀ b o, b ≠ d → H b = some o → (upd H1 d (.frz od (.dT kvd))) b = some o := fun b o n e => by rw [upd_ne n]; exact s1 _ _ e
    have ed1 : (upd H1 d (.frz od (.dT kvd))) d = some (.frz od (.dT kvd)) := upd_same
    have eg2 : (upd H1 d (.frz od (.dT kvd))) g = some (.dT []) := by rw [upd_ne ngd]; exact eg1
    generalize upd H1 d (.frz od (.dT kvd)) = H2 at b1 ed1 eg2 ⊢
    have Sl := fun (i : Nat) (hi : i < L.length) => pL L[i] (List.getElem_mem hi)
    refine for_it walk_keysT (fun i σ H' => ∃ (v4 v5 v6 : Option V) (kvg : List (List Key × V)), σ = [some (.ref x), some (.ref d), some (.ref e), some (.ref g), v4, v5, v6] ∧ H' d = some (.frz od (.dT kvd)) ∧ H' g = some (.dT kvg) ∧
        KVs (PairsV K H') kvg (layP E (edges (stepsV ts rs) (L.take i))) ∧ (kvg.map (·.2)).Nodup ∧ OffL (fun l => H l = none) kvg ∧ (∀ b o, b ≠ d → H b = some o → H' b = some o))
      ⟨none, none, none, [], rfl, ed1, eg2, .nil, List.nodup_nil, (fun kv hk => by cases hk), b1⟩ (fun i σ H' _ ⟨_, _, _, _, _, e, _⟩ => e) ?_ ?_
    · rintro i y σ H3 H3' hi ⟨v4, v5, v6, kvg, rfl, ed, eg, hk, nv, off, b1⟩ ⟨rfl, key, val, q, hkv, rfl, eq⟩
      obtain ⟨st, est, hkey⟩ := par_get kd hkv
      obtain rfl : key = keyR st := hkey
      have eq : H3' q = some (.tup (st.map V.int)) := by rw [eq, keyR_kV]
      have mst : st ∈ L := List.mem_of_getElem? est
      have pst := pL st mst
      have lst : st.length = n := by rw [pst.length_eq, l0]
      have kT := but_kpT b1 hd
      refine gset_go (σ' := [some (.ref x), some (.ref d), some (.ref e), some (.ref g), some (.ref q), v5, v6]) rfl ?_
      refine ⟨_, rfl, _, rfl, x, _, n, ts, rs, st, rfl, kT.yo hy, yp, ⟨q, rfl, eq⟩, lst, fun z hz => p0 z (pst.mem_iff.mp hz), fun ls ys H4 nls els pys s4 => ⟨ls, rfl, ⟨_, SqL.of els⟩, ?_⟩⟩
      have lys : ys.length = (stepsV ts rs st).length := Paired.length pys
      have off4 : OffL (fun l => H l = none ∧ l ≠ ls) kvg := fun kv hkv => by
        obtain ⟨l, e1, n1⟩ := off kv hkv
        refine ⟨l, e1, n1, ?_⟩
        obtain ⟨j, hj⟩ := List.mem_iff_getElem?.mp hkv
        obtain ⟨_, _, _, l', xs, e2, e3, _⟩ := par_get hk hj
        rw [e1] at e2
        cases e2
        exact ne_of_none e3 nls
      refine for_list (K := K) (a := ls) (xs := ys) (fun j σ H' => ∃ (v5 v6 : Option V) (kvg : List (List Key × V)), σ = [some (.ref x), some (.ref d), some (.ref e), some (.ref g), some (.ref q), v5, v6] ∧ H' d = some (.frz od (.dT kvd)) ∧ H' g = some (.dT kvg) ∧
          KVs (PairsV K H') kvg (layP E (edges (stepsV ts rs) (L.take i) ++ ((stepsV ts rs st).take j).map fun s => (st, s.1, s.2))) ∧ (kvg.map (·.2)).Nodup ∧ OffL (fun l => H l = none ∧ l ≠ ls) kvg ∧ (∀ b o, b ≠ d → H b = some o → H' b = some o) ∧ KpT H4 H' ∧ H' ls = some (.lst ys))
        ⟨v5, v6, kvg, rfl, s4 _ _ ed, s4 _ _ eg, by rw [List.take_zero, List.map_nil, List.append_nil]; exact hk.kpO (.of_same s4) off fun l xs _ e => s4 _ _ e, nv, off4, (fun b o n e => s4 _ _ (b1 b o n e)), .of_same (Same.refl' _), els⟩ (fun j σ H' _ ⟨_, _, _, _, _, _, _, _, _, _, _, e⟩ => SqL.of e) ?_ ?_
      · rintro j v σ H5 hj ⟨v5, v6, kvg, rfl, ed, eg, hk, nv, off, b1, k45, els5⟩
        obtain ⟨sp, esp, hsp⟩ := par_get pys hj
        obtain ⟨t, m, bv, rfl, ht4, hm4, hb4⟩ := hsp
        have ht := k45.tup ht4
        have hm := k45.mv hm4
        have hb := k45.row hb4
        obtain ⟨bb, rfl, hbb⟩ := hb.key
        have jl : j < (stepsV ts rs st).length := (List.getElem?_eq_some_iff.mp esp).1
        have eT : edges (stepsV ts rs) (L.take i) ++ ((stepsV ts rs st).take (j + 1)).map (fun s => (st, s.1, s.2)) = (edges (stepsV ts rs) (L.take i) ++ ((stepsV ts rs st).take j).map fun s => (st, s.1, s.2)) ++ [(st, sp.1, sp.2)] := by
          rw [take_next esp, List.map_append, List.append_assoc]
          rfl
        rw [eT]
        have esl : (edges (stepsV ts rs) (L.take i) ++ ((stepsV ts rs st).take j).map fun s => (st, s.1, s.2)).length ≤ 400000 := by
          have h1 := edges_len (S := stepsV ts rs) (m := 120) (L := L.take i) fun r _ => steps_len yp r
          have h2 : (L.take i).length ≤ L.length := by rw [List.length_take]; omega
          have h3 := steps_len yp st
          rw [List.length_append, List.length_map, List.length_take]
          have : (L.take i).length * 120 ≤ 3125 * 120 := Nat.mul_le_mul_right _ (by omega)
          omega
        have esm : ∀ u ∈ fresh E (edges (stepsV ts rs) (L.take i) ++ ((stepsV ts rs st).take j).map fun s => (st, s.1, s.2)), u.Perm r0 := fun u hu => by
          obtain ⟨_, ed, hed, rfl⟩ := mem_fresh.mp hu
          rcases List.mem_append.mp hed with hed | hed
          · obtain ⟨h1, h2⟩ := mem_edges.mp hed
            have p1 := pL _ (List.mem_of_mem_take h1)
            exact (steps_perm yp (by rw [p1.length_eq, l0]) _ h2).trans p1
          · obtain ⟨s', hs', rfl⟩ := List.mem_map.mp hed
            exact (steps_perm yp lst s' (List.mem_of_mem_take hs')).trans pst
        generalize edges (stepsV ts rs) (L.take i) ++ ((stepsV ts rs st).take j).map (fun s => (st, s.1, s.2)) = es at hk esl esm ⊢
        have lkv : kvg.length ≤ 3125 := by
          rw [hk.len]
          unfold layP
          rw [List.length_map]
          exact perms_len (by omega) (fresh_nodup _ _) esm
        refine ⟨t, _, rfl, SqT.of ht, rfl, _, _, rfl, _, _, rfl, rfl, ?_⟩
        refine sq_st (σ' := [some (.ref x), some (.ref d), some (.ref e), some (.ref g), some (.ref q), some m, some (.ref bb)]) rfl ?_
        have ee := b1 e _ (Ne.symm de) he
        refine ⟨_, rfl, _, rfl, e, _, rfl, DGet.t ee hbb, _, rfl, ?_⟩
        by_cases cE : sp.2 ∈ E
        · refine iteF' (by rw [ke.some_iff ndE, decide_eq_true cE]; rfl) ?_
          exact ⟨_, _, kvg, rfl, ed, eg, by rw [layP_in cE]; exact hk, nv, off, b1, k45, els5⟩
        · refine iteT' (by rw [ke.some_iff ndE, decide_eq_false cE]; rfl) ?_
          refine ⟨_, rfl, g, rfl, .inr ⟨kvg, .inl eg⟩, _, rfl, Nat.zero_le _, fun l0 nl0 => ?_⟩
          have s0 := Same.new (o := .lst []) nl0
          have el0 : (upd H5 l0 (.lst [])) l0 = some (.lst []) := upd_same
          have ed6 := s0 _ _ ed
          have eg6 := s0 _ _ eg
          have els6 := s0 _ _ els5
          have hbb6 := s0 _ _ hbb
          have k46 := k45.trans (.of_same s0)
          have b16 : ∀ b o, b ≠ d → H b = some o → (upd H5 l0 (.lst [])) b = some o := fun b o n e => s0 _ _ (b1 b o n e)
          have hk6 := hk.kpO (.of_same s0) off fun l xs _ e => s0 _ _ e
          have nh0 : H l0 = none := by
            cases e0 : H l0 with
            | none => rfl
            | some o =>
              by_cases c : l0 = d
              · rw [c, ed] at nl0; cases nl0
              · rw [b1 l0 o c e0] at nl0; cases nl0
          have n0g : l0 ≠ g := fun z => by rw [z, eg] at nl0; cases nl0
          have n0ls : l0 ≠ ls := fun z => by rw [z, els5] at nl0; cases nl0
          have fr0 : ∀ kv ∈ kvg, kv.2 ≠ V.ref l0 := fun kv hkv z => by
            obtain ⟨j, hj⟩ := List.mem_iff_getElem?.mp hkv
            obtain ⟨_, _, _, l', xs, e2, e3, _⟩ := par_get hk hj
            rw [z] at e2
            cases e2
            rw [nl0] at e3
            cases e3
          generalize upd H5 l0 (.lst []) = H6 at s0 el0 ed6 eg6 els6 hbb6 k46 b16 hk6 ⊢
          refine ⟨kvg, keyR sp.2, bb, eg6, rfl, hbb6, Nat.lt_of_le_of_lt lkv (by decide), fun v H7 hset => ?_⟩
          obtain ⟨kvg', ps', l, ys', rfl, hv, ed7, eg7, els7, k47, b17, hk7, nd7, nv7, off7, hl7, ly7, eP⟩ : ∃ (kvg' : List (List Key × V)) (ps' : List (Rw × List Pr)) (l : Addr) (ys' : List V), v = .ref l ∧ valV kvg' (keyR sp.2) = some (.ref l) ∧ H7 d = some (.frz od (.dT kvd)) ∧ H7 g = some (.dT kvg') ∧ H7 ls = some (.lst ys) ∧ KpT H4 H7 ∧
              (∀ b o, b ≠ d → H b = some o → H7 b = some o) ∧ KVs (PairsV K H7) kvg' ps' ∧ (ps'.map (·.1)).Nodup ∧ (kvg'.map (·.2)).Nodup ∧ OffL (fun l => H l = none ∧ l ≠ ls) kvg' ∧ H7 l = some (.lst ys') ∧ ys'.length < sizeLine ∧ layP E (es ++ [(st, sp.1, sp.2)]) = ps'.map fun u => (u.1, if u.1 = sp.2 then u.2 ++ [(st, sp.1)] else u.2) := by
            rcases hset with ⟨hv, rfl⟩ | ⟨hv, rfl, rfl⟩
            · have cF : sp.2 ∈ fresh E es := by
                have := hk6.some_iff (by rw [layP_keys]; exact fresh_nodup _ _) (r := sp.2)
                rw [hv, layP_keys] at this
                exact of_decide_eq_true this.symm
              obtain ⟨v', ev', l, ys', rfl, e3, e4⟩ := hk6.at (by rw [layP_keys]; exact fresh_nodup _ _) (p := (sp.2, into es sp.2)) (List.mem_map.mpr ⟨_, cF, rfl⟩)
              have ev' : valV kvg (keyR sp.2) = some (V.ref l) := ev'
              rw [hv] at ev'
              cases ev'
              refine ⟨kvg, _, l, ys', rfl, hv, ed6, eg6, els6, k46, b16, hk6, by rw [layP_keys]; exact fresh_nodup _ _, nv, off, e3, ?_, layP_there (e := (st, sp.1, sp.2)) cE cF⟩
              rw [Paired.length e4]
              exact Nat.lt_of_le_of_lt (Nat.le_trans (into_len _ _) esl) (by decide)
            · have cF : sp.2 ∉ fresh E es := fun z => by
                have := hk6.some_iff (by rw [layP_keys]; exact fresh_nodup _ _) (r := sp.2)
                rw [hv, layP_keys, decide_eq_true z] at this
                cases this
              have kd6 := KpT.dt (o := .dT (putK kvg (keyR sp.2) (.ref l0))) eg6
              have lne : ∀ {b : Addr} {xs : List V}, H6 b = some (.lst xs) → b ≠ g := fun e => ne_of e eg6 (by intro z; cases z)
              have gd : d ≠ g := Ne.symm ngd
              have hk7 : KVs (PairsV K (upd H6 g (.dT (putK kvg (keyR sp.2) (.ref l0))))) kvg (layP E es) := hk6.kpO kd6.q off fun l xs _ e => by rw [upd_ne (lne e)]; exact e
              have hn : sp.2 ∉ (layP E es).map (·.1) := by rw [layP_keys]; exact cF
              refine ⟨_, layP E es ++ [(sp.2, [])], l0, [], rfl, ?_, by rw [upd_ne gd]; exact ed6, upd_same, by rw [upd_ne (lne els6)]; exact els6, k46.trans kd6, fun b o n e => ?_, hk7.snoc hn ⟨l0, [], rfl, by rw [upd_ne n0g]; exact el0, .nil⟩, ?_, ?_, ?_, by rw [upd_ne n0g]; exact el0, by decide, layP_new (e := (st, sp.1, sp.2)) cE cF⟩
              · rw [valV_put, if_pos rfl]
              · have : b ≠ g := fun z => by rw [z, ng] at e; cases e
                rw [upd_ne this]
                exact b16 b o n e
              · rw [List.map_append, layP_keys]
                exact List.nodup_append.mpr ⟨fresh_nodup _ _, by simp, fun a ha b hb z => cF (by rw [List.mem_singleton.mp hb] at z; have z : a = sp.2 := z; rw [← z]; exact ha)⟩
              · rw [putK_new _ hv, List.map_append]
                refine List.nodup_append.mpr ⟨nv, by simp, fun a ha b hb z => ?_⟩
                obtain ⟨kv, hkv, rfl⟩ := List.mem_map.mp ha
                rw [List.mem_singleton.mp hb] at z
                exact fr0 kv hkv z
              · rw [putK_new _ hv]
                intro kv hkv
                rcases List.mem_append.mp hkv with hkv | hkv
                · exact off kv hkv
                · rw [List.mem_singleton.mp hkv]
                  exact ⟨l0, rfl, nh0, n0ls⟩
          refine ⟨.inl ⟨rfl, _, SqL.of hl7⟩, _, rfl, _, rfl, (by show 2 ≤ sizeLine; decide), fun q1 nq1 => ?_⟩
          have sq := Same.new (o := .tup [.ref q, m]) nq1
          have hl8 := sq _ _ hl7
          have ed8 := sq _ _ ed7
          have eg8 := sq _ _ eg7
          have els8 := sq _ _ els7
          have k48 := k47.trans (.of_same sq)
          have b18 : ∀ b o, b ≠ d → H b = some o → (upd H7 q1 (.tup [.ref q, m])) b = some o := fun b o n e => sq _ _ (b17 b o n e)
          have hk8 := hk7.kpO (.of_same sq) off7 fun l xs _ e => sq _ _ e
          have pq : PairV K (upd H7 q1 (.tup [.ref q, m])) (.ref q1) (st, sp.1) := ⟨q1, .ref q, m, rfl, upd_same, ⟨q, rfl, k48.tup (s4 _ _ eq)⟩, k48.mv hm4⟩
          generalize upd H7 q1 (.tup [.ref q, m]) = H8 at sq hl8 ed8 eg8 els8 k48 b18 hk8 pq ⊢
          refine ⟨l, ys', _, rfl, rfl, hl8, ly7, ?_⟩
          have okl : H l = none ∧ l ≠ ls := by
            have := valV_mem2 hv
            obtain ⟨kv, hkv, e1⟩ := List.mem_map.mp this
            obtain ⟨l', e2, n1⟩ := off7 kv hkv
            rw [e1] at e2
            cases e2
            exact n1
          have up : ∀ {b : Addr} {o : HO}, b ≠ l → H8 b = some o → (upd H8 l (.lst (ys' ++ [.ref q1]))) b = some o := fun n e => by rw [upd_ne n]; exact e
          refine ⟨_, _, kvg', rfl, up (Ne.symm (ne_of hl8 ed8 (by intro z; cases z))) ed8, up (Ne.symm (ne_of hl8 eg8 (by intro z; cases z))) eg8, ?_, nv7, off7, fun b o n e => up (fun z => by rw [z, okl.1] at e; cases e) (b18 b o n e), k48.trans (.lst hl8), up (Ne.symm okl.2) els8⟩
          rw [eP]
          exact KVs.app hl8 pq hk8 nd7 nv7 hv
      · rintro σ H5 ⟨v5, v6, kvg, rfl, ed, eg, hk, nv, off, b1, k45, els5⟩
        rw [lys, List.take_length] at hk
        refine ⟨_, _, _, kvg, rfl, ed, eg, ?_, nv, off.mono fun l h => h.1, b1⟩
        rw [take_next est, edges_snoc]
        exact hk
    · rintro σ H3 ⟨v4, v5, v6, kvg, rfl, ed, eg, hk, nv, off, b1⟩
      rw [Paired.length kd, List.take_length] at hk
      refine ⟨ed, _, rfl, ?_⟩
      have sF : Same H (upd H3 d (.dT kvd)) := fun b o eb => by
        by_cases c : b = d
        · rw [c] at eb ⊢
          rw [upd_same, ← hd, eb]
        · rw [upd_ne c]
          exact b1 b o c eb
      refine k g kvg _ ng (by rw [upd_ne ngd]; exact eg) ?_ off sF
      refine hk.kpO (.but ed fun b o c e => by rw [upd_ne c]; exact e) off fun l xs n e => ?_
      · rw [upd_ne (fun z => by rw [z, hd] at n; cases n)]
        exact e
end
end Y
set_option Elab.async false
set_option linter.all false
set_option maxRecDepth 100000
set_option maxHeartbeats 4000000
namespace Y
open PySem L2
/-! ### searched -/
abbrev sManyI : Stmt := inClass (top 12) 0
abbrev sSe : Stmt := top 24
abbrev NSe : List Str := ["yard", "one", "most", "other", "start", "found", "seen", "layer", "stand"]
theorem while_m {c : TT} {tb : TS} {D : Ends} {σ : L2.St} {H : Hp} (Pv : Nat → L2.St → Hp → Prop) (h0 : ∃ m, Pv m σ H)
    (hs : ∀ m σ H, Pv m σ H → c σ H fun b H1 => if b = true then tb { D with nx := fun σ' H' => ∃ m', m' < m ∧ Pv m' σ' H', ct := fun σ' H' => ∃ m', m' < m ∧ Pv m' σ' H', bk := D.nx } σ H1 else D.nx σ H1)
    (mono : ∀ σ H Q Q', (∀ b H1, Q b H1 → Q' b H1) → c σ H Q → c σ H Q') : tWhile c tb D σ H := by
  refine ⟨Pv, h0, fun m σ H p => mono σ H _ _ (fun b H1 q => ?_) (hs m σ H p)⟩
  cases b with
  | true => exact ⟨_, fun σ' H' h => h, q⟩
  | false => exact q
def pkL (S : StF) (r : Rw) : Nat → List (Rw × List Pr)
  | 0 => [(r, [])]
  | k + 1 => layP (Sn S r k) (edges S (Ly S r k))
theorem pkL_keys (S : StF) (r : Rw) : ∀ k, (pkL S r k).map (·.1) = Ly S r k
  | 0 => rfl
  | k + 1 => layP_keys _ _
def inO (o : Option Rw) (L : List Rw) : Bool := match o with
  | none => false
  | some q => decide (q ∈ L)
def OthV (H : Hp) (y : V) : Option Rw → Prop
  | none => y = .non
  | some q => RowV H y q
/-- where the search ends -/
structure Stop (S : StF) (r : Rw) (o : Option Rw) (k : Nat) : Prop where
  at_ : Ly S r k = [] ∨ inO o (Ly S r k) = true
  no : ∀ i, i < k → Ly S r i ≠ [] ∧ inO o (Ly S r i) = false
/-- a layer's dict -/
def LayD (K : PySem.W.Frag) (H : Hp) (v : V) (ps : List (Rw × List Pr)) : Prop := ∃ g kvs, v = .ref g ∧ H g = some (.dT kvs) ∧ KVs (PairsV K H) kvs ps
def LayAt (K : PySem.W.Frag) (H : Hp) (e f : Addr) (v : V) (ps : List (Rw × List Pr)) : Prop := ∃ g kvs, v = .ref g ∧ H g = some (.dT kvs) ∧ KVs (PairsV K H) kvs ps ∧ g ≠ e ∧ OffL (fun l => l ≠ f) kvs
theorem LayAt.d {K : PySem.W.Frag} {H : Hp} {e f : Addr} {v : V} {ps : List (Rw × List Pr)} (h : LayAt K H e f v ps) : LayD K H v ps := by
  obtain ⟨g, kvs, e1, e2, e3, _⟩ := h
  exact ⟨g, kvs, e1, e2, e3⟩
theorem LayAt.kp {K : PySem.W.Frag} {H H' : Hp} {e f : Addr} {kve : List (List Key × V)} {xs : List V} {v : V} {ps : List (Rw × List Pr)} (q : KpQ H H') (he : H e = some (.dT kve)) (hf : H f = some (.lst xs)) (hb : ∀ b o, b ≠ e → b ≠ f → H b = some o → H' b = some o) (h : LayAt K H e f v ps) : LayAt K H' e f v ps := by
  obtain ⟨g, kvs, e1, e2, e3, e4, e5⟩ := h
  exact ⟨g, kvs, e1, hb _ _ e4 (ne_of e2 hf (by intro z; cases z)) e2, e3.kpO q e5 fun l xs n el => hb _ _ (ne_of el he (by intro z; cases z)) n el, e4, e5⟩
theorem KpQ.butT {e : Addr} {kve : List (List Key × V)} {H H' : Hp} (he : H e = some (.dT kve)) (h : ∀ b o, b ≠ e → H b = some o → H' b = some o) : KpQ H H' :=
  ⟨fun b xs eb => h b _ (ne_of eb he (by intro z; cases z)) eb, fun b o xs eb => h b _ (ne_of eb he (by intro z; cases z)) eb⟩
theorem KeysD.snoc {kvs : List (List Key × V)} {E : List Rw} (h : KeysD kvs E) {r : Rw} (v : V) (hr : r ∉ E) : KeysD (putK kvs (keyR r) v) (E ++ [r]) := by
  have hn : valV kvs (keyR r) = none := by
    induction h with
    | nil => rfl
    | cons a _ ih =>
      rw [List.mem_cons, not_or] at hr
      rw [valV_neg fun e => hr.1 (keyR_inj (e.symm.trans a))]
      exact ih hr.2
  rw [putK_new v hn]
  exact par_snoc h rfl
/-- tuple(xs) of a list or a tuple of ints that is known itself: a row -/
theorem call_tuple_row {X : Cx} : CallR X (.type "tuple") (fun xs H Q => ∃ (p : Addr) (r : List Int), xs = [.ref p] ∧ (SqL X.K H p (r.map V.int) ∨ H p = some (.tup (r.map V.int))) ∧ ∀ b H', H' b = some (.tup (r.map V.int)) → Same H H' → Q (.ref b) H') := by
  intro pins s σ H xs us Q I r h
  obtain ⟨p, rr, e, h, k⟩ := h
  exact call_tuple_of pins s σ H xs us Q I r ⟨p, _, e, h.imp (fun h => ⟨h, fun l nl => k l _ upd_same (Same.new nl)⟩) fun h => ⟨SqT.of h, k p H h (Same.refl' H)⟩⟩
theorem par_last {α β : Type} {R : α → β → Prop} {l : List α} {m : List β} {b : β} (h : Paired R l (m ++ [b])) : ∃ l0 a, l = l0 ++ [a] ∧ Paired R l0 m ∧ R a b := by
  induction m generalizing l with
  | nil =>
    cases h with
    | cons a t => cases t; exact ⟨[], _, rfl, .nil, a⟩
  | cons c m ih =>
    cases h with
    | cons a t =>
      obtain ⟨l0, x, rfl, h1, h2⟩ := ih t
      exact ⟨_ :: l0, x, rfl, .cons a h1, h2⟩
theorem atI_lastD (xs : List V) (x : V) : atI (xs ++ [x]) (-1) = some x := by
  unfold atI ixN
  rw [if_neg (by omega), if_pos (by rw [List.length_append]; show -(((xs.length + 1 : Nat)) : Int) ≤ -1; omega)]
  show (xs ++ [x])[((-1 : Int) + ((xs ++ [x]).length : Int)).toNat]? = some x
  rw [show ((-1 : Int) + ((xs ++ [x]).length : Int)).toNat = xs.length by rw [List.length_append]; show ((-1 : Int) + ((xs.length + 1 : Nat) : Int)).toNat = _; omega]
  rw [List.getElem?_append_right (Nat.le_refl _), Nat.sub_self]
  rfl
def spSe (K : PySem.W.Frag) (CM : Addr) : Sp := fun vs H Q E => ∃ (x a : Addr) (y : V) (n k : Nat) (ts : List (Int × Int)) (rs : List (List Int)) (r : Rw) (most : Int) (o : Option Rw), vs = [.ref x, .ref a, .int most, y] ∧ YObj K H x n ts rs ∧ YP n ts rs ∧ n ≤ 5 ∧
  (SqL K H a (r.map V.int) ∨ H a = some (.tup (r.map V.int))) ∧ r.length = n ∧ (∀ z ∈ r, 0 ≤ z) ∧ OthV H y o ∧ Stop (stepsV ts rs) r o k ∧
  (((∀ i, i < k → ((Sn (stepsV ts rs) r i).length : Int) ≤ most) ∧ ∀ f ds H', H' f = some (.lst ds) → Paired (LayD K H') ds ((List.range (k + 1)).map (pkL (stepsV ts rs) r)) → Same H H' → Q (.ref f) H') ∨
   ((∃ i, i < k ∧ most < ((Sn (stepsV ts rs) r i).length : Int)) ∧ RaisedF CM [("most", .int most)] H E))
section
variable {n : Nat} {ts : List (Int × Int)} {rs : List (List Int)} {r : Rw}
theorem sn_perm (yp : YP n ts rs) (hl : r.length = n) (k : Nat) : ∀ x ∈ Sn (stepsV ts rs) r k, x.Perm r :=
  Sn_all (P := fun x => x.Perm r) (.refl _) (fun x p s hs => (steps_perm yp (by rw [p.length_eq, hl]) s hs).trans p) k
theorem ly_perm (yp : YP n ts rs) (hl : r.length = n) (k : Nat) : ∀ x ∈ Ly (stepsV ts rs) r k, x.Perm r := fun x hx => sn_perm yp hl k x (Ly_sub k x hx)
theorem sn_len (yp : YP n ts rs) (hl : r.length = n) (n5 : n ≤ 5) (k : Nat) : (Sn (stepsV ts rs) r k).length ≤ 3125 := perms_len (by omega) (Sn_nodup k) (sn_perm yp hl k)
theorem ly_len (yp : YP n ts rs) (hl : r.length = n) (n5 : n ≤ 5) (k : Nat) : (Ly (stepsV ts rs) r k).length ≤ 3125 := perms_len (by omega) (Ly_nodup k) (ly_perm yp hl k)
theorem Stop.le {S : StF} {o : Option Rw} {k : Nat} (h : Stop S r o k) (hB : ∀ i, (Sn S r i).length ≤ 3125) : k ≤ 3126 := by
  rcases Nat.lt_or_ge 3126 k with c | c
  · have := Sn_grow (S := S) (r := r) 3126 fun i hi => (h.no i (by omega)).1
    have := hB 3126
    omega
  · exact c
end
section
variable {P : Program} {w : World} {K : PySem.W.Frag} {mg : Str → Option Value} {base : Heap} {CM fIM fLb : Addr}
theorem scManyI : FnScope ["self", "most"] ["self", "most"] (defScope sManyI) := ⟨rfl, rfl, rfl, by decide +kernel, rfl, by decide +kernel, by decide +kernel⟩
theorem ok_manyI {f C : Addr} {fd : FuncData} (F : Fun K "__init__" "TooMany.__init__" sManyI f fd) (T : XE1 K mg "TooMany" "most" C f) : FnOk P w K mg base CX0 1 f fd ["self", "most"] (spX1 C "most") := by
  refine F.ok scManyI (fun vs H Q E h => ?_) (fun cdv A outer s H vs Q E hr h => ?_)
  · obtain ⟨a, v, rfl, _⟩ := h
    rfl
  · obtain ⟨a, v, rfl, ha, k⟩ := h
    exact ⟨_, pss_one (ps_ost (pv 0) (pv 1)), _, rfl, _, rfl, a, C, rfl, T.xc.o, T.n, .inl ⟨ha, fun dx n ne => k dx n ne⟩⟩
theorem scSe : FnScope NSe ["yard", "one", "most", "other"] (defScope sSe) := ⟨rfl, rfl, rfl, by decide +kernel, rfl, by decide +kernel, by decide +kernel⟩
theorem ok_se {f : Addr} {fd fdL fdIM : FuncData} (F : FunD K "searched" "searched" (defArgs sSe) (defBody sSe) (defScope sSe) [.non] [] f fd) (gT : mg "tuple" = none) (gN : mg "len" = none)
    (gL : mg "layer_behind" = some (.ref fLb)) (GL : FnOk P w K mg base CX0 7 fLb fdL ["yard", "layer", "seen"] (spLb K)) (FL : Fun K "layer_behind" "layer_behind" sLb fLb fdL) (bL : Binds K fdL ["yard", "layer", "seen"] [])
    (XM : XE1 K mg "TooMany" "most" CM fIM) (GIM : FnOk P w K mg base CX0 1 fIM fdIM ["self", "most"] (spX1 CM "most")) (bIM : Binds K fdIM ["self", "most"] []) :
    FnOk P w K mg base (L2.CX P w) 8 f fd ["yard", "one", "most", "other"] (spSe K CM) := by
  refine F.ok scSe (fun vs H Q E h => ?_) (fun cdv A outer s H vs Q E hr h => ?_)
  · obtain ⟨x, a, y, n, k, ts, rs, r, most, o, rfl, _⟩ := h
    rfl
  · obtain ⟨x, a, y, n, k, ts, rs, r, most, o, rfl, hy, yp, n5, ha, hl, p0, hoth, stp, fin⟩ := h
    have hu := hu_of hr
    have hr2 : Room 2 _ := hr.mono (by decide)
    refine ⟨_, pss_cons (ps_set (i := 4) scSe.nd rfl (Or.inl rfl) (pe_callTy call_tuple_row (by rfl) gT (by decide +kernel) (pa_cons (pv 1) pa_nil)))
      (pss_cons (ps_set (i := 5) scSe.nd rfl (Or.inl rfl) (pe_lst (pa_cons (pe_disp1T hu (pv 4) (pe_lst pa_nil)) pa_nil)))
      (pss_cons (ps_set (i := 6) scSe.nd rfl (Or.inl rfl) (pe_disp1T hu (pv 4) pe_bl))
      (pss_cons (ps_while (passes_of rfl) (PW.pt (pw_and (pt_truthR (pe_ix ix_list (pv 5) (pe_un un_neg pe_int) (fun _ _ => rfl)) tru_dT (by intro _; rfl)) (pw_and1 (pt_cmp (pc_dnotinNT hu (pv 3) (pe_ix ix_list (pv 5) (pe_un un_neg pe_int) (fun _ _ => rfl)))))))
        (pss_cons (ps_if (pt_cmp (pc_gt (pe_callB call_lenT (by rfl) gN PySem.boot_len (pa_cons (pv 6) pa_nil)) (pv 2)))
          (pss_one (ps_raise rfl (takes_of rfl rfl rfl rfl) (pmk_oex XM.xc.o XM.i XM.t GIM hr2 bIM .nil pass0 (by rfl) XM.g (pa_cons (pv 2) pa_nil)))) pss_nil)
        (pss_cons (ps_set (i := 7) scSe.nd rfl (Or.inl rfl) (pe_call GL hr (by rfl) gL FL.kp bL .nil pass0 (pa_cons (pv 0) (pa_cons (pe_ix ix_list (pv 5) (pe_un un_neg pe_int) (fun _ _ => rfl)) (pa_cons (pv 6) pa_nil)))))
        (pss_cons (ps_lock (ps_for (passes_of rfl) rfl (pi_keys (pv 7)) (pg_name (i := 8) scSe.nd rfl (Or.inl rfl)) (pss_one (ps_dput hu (pv 6) (pv 8) pe_bl rfl))))
        (pss_one (ps_expr (pe_bm PySem.F.plainAttrs_list PySem.F.slot_list_append PySem.F.type_list_append mt_append (pv 5) (pa_cons (pv 7) pa_nil))))))))
      (pss_one (ps_ret (pv 5)))))), ?_⟩
    refine ⟨_, rfl, a, r, rfl, ha, fun b0 H1 eb0 s1 => ?_⟩
    refine gset_go (σ' := [some (.ref x), some (.ref a), some (.int most), some y, some (.ref b0), none, none, none, none]) rfl ?_
    dsimp only
    have keyr : ∀ {H : Hp} {b : Addr}, H b = some (.tup (r.map V.int)) → H b = some (.tup ((keyR r).map kV)) := fun h => by rw [keyR_kV]; exact h
    refine fun d0 nd0 => ⟨_, rfl, Nat.zero_le _, fun l0 nl0 => ⟨b0, keyR r, rfl, ?_, ?_, ?_⟩⟩
    · exact keyr ((Same.new (o := .lst []) nl0) _ _ ((Same.new (o := .dT []) nd0) _ _ eb0))
    · exact Same.new nl0 _ _ upd_same
    have s2 : Same H1 (upd (upd (upd H1 d0 (.dT [])) l0 (.lst [])) d0 (.dT [(keyR r, V.ref l0)])) := Same.upd_new ((Same.new nd0).trans (Same.new nl0)) nd0
    have ed0 : (upd (upd (upd H1 d0 (.dT [])) l0 (.lst [])) d0 (.dT [(keyR r, V.ref l0)])) d0 = some (.dT [(keyR r, V.ref l0)]) := upd_same
    have n0 : l0 ≠ d0 := fun z => by rw [z, upd_same] at nl0; cases nl0
    have el0 : (upd (upd (upd H1 d0 (.dT [])) l0 (.lst [])) d0 (.dT [(keyR r, V.ref l0)])) l0 = some (.lst []) := by rw [upd_ne n0]; exact upd_same
    generalize upd (upd (upd H1 d0 (.dT [])) l0 (.lst [])) d0 (.dT [(keyR r, V.ref l0)]) = H2 at s2 ed0 el0 ⊢
    refine ⟨(by show 1 ≤ sizeLine; decide), fun f nf => ?_⟩
    refine gset_go (σ' := [some (.ref x), some (.ref a), some (.int most), some y, some (.ref b0), some (.ref f), none, none, none]) rfl ?_
    dsimp only
    have s3 := Same.new (o := .lst [V.ref d0]) nf
    have ed3 := s3 _ _ ed0
    have el3 := s3 _ _ el0
    have ef3 : (upd H2 f (.lst [V.ref d0])) f = some (.lst [V.ref d0]) := upd_same
    have nfl : l0 ≠ f := ne_of_none el0 nf
    have s13 := (s1.trans s2).trans s3
    have nfH : H f = none := Same.none (s1.trans s2) nf
    have eb3 := (s2.trans s3) _ _ eb0
    generalize upd H2 f (.lst [V.ref d0]) = H3 at s3 ed3 el3 ef3 s13 eb3 ⊢
    refine fun e ne => ⟨_, rfl, b0, keyR r, rfl, keyr ((Same.new (o := .dT []) ne) _ _ eb3), upd_same, ?_⟩
    refine gset_go (σ' := [some (.ref x), some (.ref a), some (.int most), some y, some (.ref b0), some (.ref f), some (.ref e), none, none]) rfl ?_
    dsimp only
    have s4 : Same H3 (upd (upd H3 e (.dT [])) e (.dT [(keyR r, V.bl true)])) := Same.upd_new (Same.new ne) ne
    have ee4 : (upd (upd H3 e (.dT [])) e (.dT [(keyR r, V.bl true)])) e = some (.dT [(keyR r, V.bl true)]) := upd_same
    have d0e : d0 ≠ e := ne_of_none ed3 ne
    have ed4 := s4 _ _ ed3
    have el4 := s4 _ _ el3
    have ef4 := s4 _ _ ef3
    have s14 := s13.trans s4
    have neH : H e = none := Same.none s13 ne
    generalize upd (upd H3 e (.dT [])) e (.dT [(keyR r, V.bl true)]) = H4 at s4 ee4 ed4 el4 ef4 s14 ⊢
    have hB := fun i => sn_len (r := r) yp hl n5 i
    have k26 := stp.le hB
    refine while_m (fun m σ H' => ∃ (i : Nat) (v7 v8 : Option V) (ds : List V) (kve : List (List Key × V)), σ = [some (.ref x), some (.ref a), some (.int most), some y, some (.ref b0), some (.ref f), some (.ref e), v7, v8] ∧ m = k - i ∧ i ≤ k ∧ (∀ j, j < i → ((Sn (stepsV ts rs) r j).length : Int) ≤ most) ∧
        H' f = some (.lst ds) ∧ Paired (LayAt K H' e f) ds ((List.range (i + 1)).map (pkL (stepsV ts rs) r)) ∧ H' e = some (.dT kve) ∧ KeysD kve (Sn (stepsV ts rs) r i) ∧ Same H H')
      ⟨k, 0, none, none, _, _, rfl, by omega, Nat.zero_le _, (fun j hj => by omega), ef4, .cons ⟨d0, _, rfl, ed4, .cons ⟨rfl, l0, [], rfl, el4, .nil⟩ .nil, d0e, fun kv hkv => by rw [List.mem_singleton.mp hkv]; exact ⟨l0, rfl, nfl⟩⟩ .nil, ee4, .cons rfl .nil, s14⟩ ?_ ?_
    · rintro m σ H5 ⟨i, v7, v8, ds, kve, rfl, rfl, hi, hm, ef, pd, ee, ke, s5⟩
      obtain ⟨ds0, dl, rfl, pd0, hdl⟩ : ∃ ds0 dl, ds = ds0 ++ [dl] ∧ Paired (LayAt K H5 e f) ds0 ((List.range i).map (pkL (stepsV ts rs) r)) ∧ LayAt K H5 e f dl (pkL (stepsV ts rs) r i) := by
        have pd := pd
        rw [List.range_succ, List.map_append] at pd
        exact par_last pd
      obtain ⟨g, kvg, rfl, eg, hk, ge, offg⟩ := id hdl
      have lkv : kvg.length = (Ly (stepsV ts rs) r i).length := by rw [hk.len, ← pkL_keys, List.length_map]
      refine ⟨_, rfl, 1, rfl, f, _, -1, _, rfl, rfl, SqL.of ef, atI_lastD _ _, g, kvg, rfl, eg, ?_⟩
      have done : i = k → Q (.ref f) H5 := fun ik => by
        subst ik
        rcases fin with ⟨_, fin⟩ | ⟨⟨j, hj, hj2⟩, _⟩
        · exact fin f _ H5 ef (par_map (fun _ _ h => h.d) pd) s5
        · have := hm j hj
          omega
      by_cases cE : Ly (stepsV ts rs) r i = []
      · have : decide (kvg.length ≠ 0) = false := by rw [lkv, cE]; rfl
        refine iteF' this ⟨_, rfl, done ?_⟩
        rcases Nat.lt_or_ge i k with h | h
        · exact absurd cE (stp.no i h).1
        · omega
      · refine iteT' (decide_eq_true (by rw [lkv]; exact fun z => cE (List.length_eq_zero_iff.mp z))) ?_
        refine ⟨_, rfl, _, rfl, 1, rfl, f, _, -1, _, rfl, rfl, SqL.of ef, atI_lastD _ _, g, !inO o (Ly (stepsV ts rs) r i), rfl, ⟨kvg, eg, ?_⟩, _, rfl, ?_⟩
        · cases o with
          | none => exact .inl ⟨hoth, rfl⟩
          | some q =>
            obtain ⟨qa, rfl, hq⟩ := RowV.key (show RowV H5 y q from RowV.kp hoth fun b xs e => s5 _ _ e)
            refine .inr ⟨qa, _, rfl, hq, ?_⟩
            rw [hk.some_iff (by rw [pkL_keys]; exact Ly_nodup i), pkL_keys]
            rfl
        by_cases cO : inO o (Ly (stepsV ts rs) r i) = true
        · refine iteF' (by rw [cO]; rfl) ⟨_, rfl, done ?_⟩
          rcases Nat.lt_or_ge i k with h | h
          · have := (stp.no i h).2
            rw [cO] at this
            cases this
          · omega
        have cO : inO o (Ly (stepsV ts rs) r i) = false := by simpa using cO
        refine iteT' (by rw [cO]; rfl) ?_
        have ik : i < k := by
          rcases Nat.lt_or_ge i k with h | h
          · exact h
          · have : i = k := by omega
            subst this
            rcases stp.at_ with h | h
            · exact absurd h cE
            · rw [cO] at h; cases h
        have lke : kve.length = (Sn (stepsV ts rs) r i).length := Paired.length ke
        refine ⟨_, rfl, e, kve, rfl, ee, _, rfl, ?_⟩
        refine ⟨_, _, rfl, rfl, _, rfl, ?_⟩
        by_cases cm : most < ((Sn (stepsV ts rs) r i).length : Int)
        · refine iteT' (decide_eq_true (show most < ((kve.length : Nat) : Int) by rw [lke]; exact cm)) ⟨_, rfl, ?_⟩
          rcases fin with ⟨h, _⟩ | ⟨_, raised⟩
          · have := h i ik
            omega
          · exact mkF1 (raised.same s5)
        refine iteF' (decide_eq_false (show ¬ most < ((kve.length : Nat) : Int) by rw [lke]; exact cm)) ?_
        refine ⟨_, rfl, _, rfl, 1, rfl, f, _, -1, _, rfl, rfl, SqL.of ef, atI_lastD _ _, _, rfl, ?_⟩
        have kd := hk.keysD
        rw [pkL_keys] at kd
        refine ⟨x, g, e, n, ts, rs, kvg, kve, Ly (stepsV ts rs) r i, Sn (stepsV ts rs) r i, r, rfl, hy.kp (.of_same s5), yp, eg, kd, ee, ke, Sn_nodup i, ge, hl, n5, p0, ly_perm yp hl i, ly_len yp hl n5 i, fun gn kvn H6 ngn egn hkn offn s6 => ?_⟩
        refine gset_go (σ' := [some (.ref x), some (.ref a), some (.int most), some y, some (.ref b0), some (.ref f), some (.ref e), some (.ref gn), v8]) rfl ?_
        dsimp only
        have ef6 := s6 _ _ ef
        have ee6 := s6 _ _ ee
        have ngnf : gn ≠ f := Ne.symm (ne_of_none ef ngn)
        have ngne : gn ≠ e := Ne.symm (ne_of_none ee ngn)
        have offn6 : OffL (fun l => l ≠ f) kvn := offn.mono fun l h => Ne.symm (ne_of_none ef h)
        have kdn := hkn.keysD
        rw [layP_keys] at kdn
        change KeysD kvn (Ly (stepsV ts rs) r (i + 1)) at kdn
        refine ⟨gn, .dT kvn, egn, trivial, fun od => ?_⟩
        refine ⟨_, rfl, gn, od, rfl, .inr ⟨kvn, upd_same, ?_⟩⟩
        have b7 : ∀ b o, b ≠ gn → H6 b = some o → (upd H6 gn (.frz od (.dT kvn))) b = some o := fun b o n e => by rw [upd_ne n]; exact e
        have eg7 : (upd H6 gn (.frz od (.dT kvn))) gn = some (.frz od (.dT kvn)) := upd_same
        have ee7 := b7 e _ (Ne.symm ngne) ee6
        generalize upd H6 gn (.frz od (.dT kvn)) = H7 at b7 eg7 ee7 ⊢
        refine for_it walk_keysT (fun j σ H' => ∃ (v8 : Option V) (kvj : List (List Key × V)), σ = [some (.ref x), some (.ref a), some (.int most), some y, some (.ref b0), some (.ref f), some (.ref e), some (.ref gn), v8] ∧ H' gn = some (.frz od (.dT kvn)) ∧ H' e = some (.dT kvj) ∧ KeysD kvj (Sn (stepsV ts rs) r i ++ (Ly (stepsV ts rs) r (i + 1)).take j) ∧
            (∀ b o, b ≠ gn → b ≠ e → H6 b = some o → H' b = some o))
          ⟨v8, kve, rfl, eg7, ee7, by rw [List.take_zero, List.append_nil]; exact ke, fun b o n _ e => b7 b o n e⟩ (fun j σ H' _ ⟨_, _, _, e, _⟩ => e) ?_ ?_
        · rintro j yk σ H8 H8' hj ⟨v8, kvj, rfl, egj, eej, kj, bj⟩ ⟨rfl, key, val, q, hkv, rfl, eq⟩
          obtain ⟨st, est, hkey⟩ := par_get kdn hkv
          obtain rfl : key = keyR st := hkey
          refine gset_go (σ' := [some (.ref x), some (.ref a), some (.int most), some y, some (.ref b0), some (.ref f), some (.ref e), some (.ref gn), some (.ref q)]) rfl ?_
          have hsn : (Sn (stepsV ts rs) r i ++ (Ly (stepsV ts rs) r (i + 1)).take (j + 1)).length ≤ 3125 := by
            have h1 := hB (i + 1)
            rw [Sn_succ, List.length_append] at h1
            rw [List.length_append, List.length_take]
            omega
          have lj : kvj.length ≤ 3125 := by
            rw [Paired.length kj]
            rw [take_next est, ← List.append_assoc, List.length_append] at hsn
            omega
          refine ⟨_, rfl, _, rfl, e, _, rfl, DPut.t eej eq (Nat.lt_of_le_of_lt lj (by decide)), ?_⟩
          have nin : st ∉ Sn (stepsV ts rs) r i ++ (Ly (stepsV ts rs) r (i + 1)).take j := fun z => by
            have nd := Sn_nodup (S := stepsV ts rs) (r := r) (i + 1)
            rw [Sn_succ, ← List.take_append_drop (j + 1) (Ly (stepsV ts rs) r (i + 1)), take_next est, ← List.append_assoc, ← List.append_assoc, List.append_assoc] at nd
            exact (List.nodup_append.mp nd).2.2 st z st (by simp) rfl
          refine ⟨some (.ref q), _, rfl, by rw [upd_ne ngne]; exact egj, upd_same, ?_, fun b o n1 n2 e => by rw [upd_ne n2]; exact bj b o n1 n2 e⟩
          rw [take_next est, ← List.append_assoc]
          exact kj.snoc _ nin
        · rintro σ H8 ⟨v8, kvj, rfl, egj, eej, kj, bj⟩
          rw [Paired.length kdn, List.take_length, ← Sn_succ] at kj
          refine ⟨egj, ?_⟩
          have b8 : ∀ b o, b ≠ e → H6 b = some o → (upd H8 gn (.dT kvn)) b = some o := fun b o n1 e1 => by
            by_cases c : b = gn
            · rw [c] at e1 ⊢
              rw [upd_same, ← egn, e1]
            · rw [upd_ne c]
              exact bj b o c n1 e1
          have q8 := KpQ.butT ee6 b8
          have ee8 : (upd H8 gn (.dT kvn)) e = some (.dT kvj) := by rw [upd_ne (Ne.symm ngne)]; exact eej
          have eg8 : (upd H8 gn (.dT kvn)) gn = some (.dT kvn) := upd_same
          generalize upd H8 gn (.dT kvn) = H9 at b8 q8 ee8 eg8 ⊢
          have ef9 := b8 f _ (ne_of ef6 ee6 (by intro z; cases z)) ef6
          have lds : (ds0 ++ [V.ref g]).length ≤ 4000 := by
            rw [Paired.length pd, List.length_map, List.length_range]
            omega
          refine ⟨_, rfl, .inl ⟨rfl, _, SqL.of ef9⟩, _, rfl, f, _, _, rfl, rfl, ef9, Nat.lt_of_le_of_lt lds (by decide), ?_⟩
          have kf := KpT.lst (o := .lst (ds0 ++ [V.ref g] ++ [.ref gn])) ef9
          have fe : f ≠ e := ne_of ef6 ee6 (by intro z; cases z)
          have q96 : KpQ H6 (upd H9 f (.lst (ds0 ++ [V.ref g] ++ [.ref gn]))) := ⟨fun b xs e => kf.q.1 _ _ (q8.1 _ _ e), fun b o xs e => kf.q.2 _ _ _ (q8.2 _ _ _ e)⟩
          have b96 : ∀ b o, b ≠ e → b ≠ f → H6 b = some o → (upd H9 f (.lst (ds0 ++ [V.ref g] ++ [.ref gn]))) b = some o := fun b o n1 n2 e => by rw [upd_ne n2]; exact b8 b o n1 e
          have lnew : LayAt K H6 e f (.ref gn) (pkL (stepsV ts rs) r (i + 1)) := ⟨gn, kvn, rfl, egn, hkn, ngne, offn6⟩
          have pd6 := par_map (fun v ps h => LayAt.kp (K := K) (.of_same s6) ee ef (fun b o _ _ e => s6 b o e) h) pd
          refine ⟨k - (i + 1), by omega, i + 1, _, _, _, kvj, rfl, rfl, ik, fun j hj => ?_, upd_same, ?_, by rw [upd_ne (Ne.symm fe)]; exact ee8, kj, fun b o e1 => ?_⟩
          · rcases Nat.lt_or_ge j i with h | h
            · exact hm j h
            · rw [show j = i by omega]
              omega
          · rw [List.range_succ, List.map_append]
            exact par_snoc (par_map (fun v ps h => h.kp q96 ee6 ef6 b96) pd6) (lnew.kp q96 ee6 ef6 b96)
          · exact b96 b o (ne_of_none e1 neH) (ne_of_none e1 nfH) (s6 _ _ (s5 _ _ e1))
    · rintro σ H' Q1 Q2 f0 ⟨v, h, i1, h1, p, xs, i, z, e1, e2, hs, ha, g', kvs, e3, e4, q⟩
      refine ⟨v, h, i1, h1, p, xs, i, z, e1, e2, hs, ha, g', kvs, e3, e4, ?_⟩
      by_cases c : decide (kvs.length ≠ 0) = true
      · have q := by rw [if_pos c] at q; exact q
        refine iteT' c ?_
        obtain ⟨y, hy, v, h, i1, h1, p, xs, i, z, e1, e2, hs, ha, g2, b, e5, hn, c2, ec, q⟩ := q
        exact ⟨y, hy, v, h, i1, h1, p, xs, i, z, e1, e2, hs, ha, g2, b, e5, hn, c2, ec, f0 _ _ q⟩
      · have q := by rw [if_neg c] at q; exact q
        exact iteF' (by simpa using c) (f0 _ _ q)
end
end Y
set_option Elab.async false
set_option linter.all false
set_option maxRecDepth 100000
set_option maxHeartbeats 4000000
namespace Y
open PySem L2
/-! ### moves_in: the first pair of each layer, from the last one back -/
abbrev sMi : Stmt := top 25
theorem into_ne {S : StF} {r : Rw} {k : Nat} {q : Rw} (h : q ∈ Ly S r (k + 1)) : ∃ p l, into (edges S (Ly S r k)) q = p :: l ∧ p.1 ∈ Ly S r k ∧ (p.2, q) ∈ S p.1 := by
  obtain ⟨_, e, he, rfl⟩ := mem_fresh.mp h
  cases c : into (edges S (Ly S r k)) e.2.2 with
  | nil =>
    exfalso
    have : (e.1, e.2.1) ∈ into (edges S (Ly S r k)) e.2.2 := List.mem_map.mpr ⟨e, List.mem_filter.mpr ⟨he, decide_eq_true rfl⟩, rfl⟩
    rw [c] at this
    cases this
  | cons p l =>
    have hp : p ∈ into (edges S (Ly S r k)) e.2.2 := by rw [c]; exact List.mem_cons_self
    obtain ⟨u, hu, h3⟩ := List.mem_map.mp hp
    obtain ⟨hu1, hu2⟩ := List.mem_filter.mp hu
    obtain ⟨h1, h2⟩ := mem_edges.mp hu1
    have e2 := of_decide_eq_true hu2
    refine ⟨p, l, rfl, ?_, ?_⟩
    · rw [← h3]; exact h1
    · rw [← h3, ← e2]; exact h2
theorem steps_mem {ts : List (Int × Int)} {rs : List (List Int)} {p q : Rw} {m : Mv} (h : (m, q) ∈ stepsV ts rs p) : m ∈ movesOf ts rs p ∧ q = stepMv rs p m := by
  obtain ⟨m', hm, e⟩ := List.mem_map.mp h
  cases e
  exact ⟨hm, rfl⟩
section
variable {T : StF} {r : Rw}
/-- the moves from q back through the layers to p -/
def ChainP (T : StF) (r : Rw) : Nat → Rw → List Mv → Rw → Prop
  | _, q, [], p => p = q
  | 0, _, _ :: _, _ => False
  | k + 1, q, m :: ms, p => ∃ u, u ∈ Ly T r k ∧ (m, q) ∈ T u ∧ ChainP T r k u ms p
theorem ChainP.nil_iff {k : Nat} {q p : Rw} : ChainP T r k q [] p ↔ p = q := by cases k <;> exact Iff.rfl
theorem ChainP.snoc {u v : Rw} {m : Mv} : ∀ {k j : Nat} {q : Rw} {ms : List Mv}, ChainP T r k q ms u → k - ms.length = j + 1 → v ∈ Ly T r j → (m, u) ∈ T v → ChainP T r k q (ms ++ [m]) v
  | k, j, q, [], h, hk, hv, hm => by
    obtain rfl := ChainP.nil_iff.mp h
    obtain rfl : k = j + 1 := hk
    exact ⟨v, hv, hm, ChainP.nil_iff.mpr rfl⟩
  | 0, j, q, _ :: _, h, hk, hv, hm => h
  | k + 1, j, q, m' :: ms, ⟨w, h1, h2, h3⟩, hk, hv, hm => ⟨w, h1, h2, h3.snoc (by rw [List.length_cons] at hk; omega) hv hm⟩
end
def spMi (K : PySem.W.Frag) : Sp := fun vs H Q _ => ∃ (f a : Addr) (n k : Nat) (ts : List (Int × Int)) (rs : List (List Int)) (r q : Rw) (ds : List V), vs = [.ref f, .ref a] ∧ YP n ts rs ∧ H f = some (.lst ds) ∧ Paired (LayD K H) ds ((List.range (k + 1)).map (pkL (stepsV ts rs) r)) ∧
  H a = some (.tup (q.map V.int)) ∧ q ∈ Ly (stepsV ts rs) r k ∧ k ≤ 1000 ∧ ∀ t ys ms H', H' t = some (.tup ys) → MvsAt K H' ys ms → ms.length = k → ChainP (stepsV ts rs) r k q ms.reverse r → Same H H' → Q (.ref t) H'
section
variable {P : Program} {w : World} {K : PySem.W.Frag} {mg : Str → Option Value} {base : Heap}
theorem scMi : FnScope ["found", "other", "moves", "now", "layer", "move"] ["found", "other"] (defScope sMi) := ⟨rfl, rfl, rfl, by decide +kernel, rfl, by decide +kernel, by decide +kernel⟩
theorem ok_mi {f : Addr} {fd : FuncData} (F : Fun K "moves_in" "moves_in" sMi f fd) (gT : mg "tuple" = none) (gR : mg "reversed" = none) : FnOk P w K mg base CX0 1 f fd ["found", "other"] (spMi K) := by
  refine F.ok scMi (fun vs H Q E h => ?_) (fun cdv A outer s H vs Q E hr h => ?_)
  · obtain ⟨f, a, n, k, ts, rs, r, q, ds, rfl, _⟩ := h
    rfl
  · obtain ⟨f, a, n, k, ts, rs, r, q, ds, rfl, yp, ef, pd, ea, hq, k1000, kk⟩ := h
    have hu := hu_of hr
    refine ⟨_, pss_cons (ps_set (i := 2) scMi.nd rfl (Or.inl rfl) (pe_lst pa_nil))
      (pss_cons (ps_set (i := 3) scMi.nd rfl (Or.inl rfl) (pv 1))
      (pss_cons (ps_for PassesOwn.never rfl (pi_reversed (by rfl) gR (pa_cons (pe_slice sl_list (pv 0) (po_some pe_int) po_none) pa_nil)) (pg_name (i := 4) scMi.nd rfl (Or.inl rfl))
        (pss_cons (ps_asg (pe_ix ix_list (pe_dget hu (pv 4) (pv 3) (fun _ _ => rfl)) pe_int (fun _ _ => rfl)) (pg_tup rfl (pgs_cons (pg_name (i := 3) scMi.nd rfl (Or.inl rfl)) (pgs_cons (pg_name (i := 5) scMi.nd rfl (Or.inl rfl)) pgs_nil))))
        (pss_one (ps_expr (pe_bm PySem.F.plainAttrs_list PySem.F.slot_list_append PySem.F.type_list_append mt_append (pv 2) (pa_cons (pv 5) pa_nil))))))
      (pss_one (ps_ret (RT.pe_tupRev rfl (by rfl) gT (by rfl) gR (pv 2)))))), ?_⟩
    refine ⟨Nat.zero_le _, fun g ng => ?_⟩
    refine gset_go (σ' := [some (.ref f), some (.ref a), some (.ref g), none, none, none]) rfl ?_
    dsimp only
    refine ⟨_, rfl, ?_⟩
    refine gset_go (σ' := [some (.ref f), some (.ref a), some (.ref g), some (.ref a), none, none]) rfl ?_
    dsimp only
    have s1 := Same.new (o := .lst []) ng
    have eg1 : (upd H g (.lst [])) g = some (.lst []) := upd_same
    have ngH := ng
    have ef1 := s1 _ _ ef
    generalize upd H g (.lst []) = H1 at s1 eg1 ef1 ⊢
    refine ⟨_, rfl, 1, rfl, f, ds, rfl, SqL.of ef1, fun p np => ⟨p, _, rfl, SqL.of upd_same, ?_⟩⟩
    rw [cut_d1]
    have lds : ds.length = k + 1 := by rw [Paired.length pd, List.length_map, List.length_range]
    have ldr : (ds.drop 1).length = k := by rw [List.length_drop, lds]; rfl
    have s2 := s1.trans (Same.new (o := .lst (ds.drop 1)) np)
    have eg2 := Same.new (o := .lst (ds.drop 1)) np _ _ eg1
    have ep2 : (upd H1 p (.lst (ds.drop 1))) p = some (.lst (ds.drop 1)) := upd_same
    have npg : g ≠ p := ne_of_none eg1 np
    have npH := Same.none s1 np
    generalize upd H1 p (.lst (ds.drop 1)) = H2 at s2 eg2 ep2 ⊢
    refine for_it (walk_rev (K := K) (a := p) (xs := ds.drop 1)) (fun i σ H' => ∃ (v4 v5 : Option V) (b : Addr) (ms : List Mv) (q' : Rw) (ys : List V), σ = [some (.ref f), some (.ref a), some (.ref g), some (.ref b), v4, v5] ∧ i ≤ k ∧ H' b = some (.tup (q'.map V.int)) ∧ q' ∈ Ly (stepsV ts rs) r (k - i) ∧
        H' g = some (.lst ys) ∧ MvsAt K H' ys ms ∧ ms.length = i ∧ ChainP (stepsV ts rs) r k q ms q' ∧ H' p = some (.lst (ds.drop 1)) ∧ Same H H')
      ⟨none, none, a, [], q, [], rfl, Nat.zero_le _, s2 _ _ ea, hq, eg2, .nil, rfl, ChainP.nil_iff.mpr rfl, ep2, s2⟩ (fun i σ H' _ ⟨_, _, _, _, _, _, _, _, _, _, _, _, _, _, e, _⟩ => SqL.of e) ?_ ?_
    · rintro i y σ H3 H3' hi ⟨v4, v5, b, ms, q', ys, rfl, ik, eb, hq', eg, hms, lms, hp, ep, s3⟩ ⟨rfl, hy⟩
      rw [ldr] at hi hy
      obtain ⟨j, hj⟩ : ∃ j, k - i = j + 1 := ⟨k - i - 1, by omega⟩
      rw [List.getElem?_drop, show 1 + (k - 1 - i) = j + 1 by omega] at hy
      obtain ⟨z, ez, hl⟩ := par_get pd hy
      rw [List.getElem?_map, List.getElem?_range (by omega)] at ez
      cases Option.some.inj ez
      obtain ⟨d, kvs, rfl, ed, hk⟩ := hl
      refine gset_go (σ' := [some (.ref f), some (.ref a), some (.ref g), some (.ref b), some (.ref d), v5]) rfl ?_
      have hk3 : KVs (PairsV K H3') kvs (pkL (stepsV ts rs) r (j + 1)) := hk.mono fun v z h => h.kp (.of_same s3) fun l xs _ e => s3 _ _ e
      rw [hj] at hq'
      obtain ⟨pr, l, ein, hp1, hp2⟩ := into_ne hq'
      have hmem : (q', into (edges (stepsV ts rs) (Ly (stepsV ts rs) r j)) q') ∈ pkL (stepsV ts rs) r (j + 1) := List.mem_map.mpr ⟨q', hq', rfl⟩
      obtain ⟨v, hv, lv, ys', rfl, elv, pz⟩ := hk3.at (by rw [pkL_keys]; exact Ly_nodup _) hmem
      rw [show ((q', into (edges (stepsV ts rs) (Ly (stepsV ts rs) r j)) q').2) = pr :: l from ein] at pz
      cases pz with
      | cons hpz ptl =>
        obtain ⟨t, a', m, rfl, et, ⟨b', rfl, eb'⟩, hm⟩ := hpz
        obtain ⟨hmo, eqq⟩ := steps_mem hp2
        refine ⟨_, rfl, _, rfl, d, _, rfl, (show DGet H3' d (.ref b) (some (.ref lv)) from hv ▸ DGet.t (s3 _ _ ed) (k := keyR q') (by rw [keyR_kV]; exact eb)), lv, _, 0, _, rfl, rfl, SqL.of elv, atI_nat (j := 0) rfl, t, [.ref b', m], rfl, SqT.of et, rfl, _, _, rfl, _, _, rfl, rfl, ?_⟩
        refine sq_st (σ' := [some (.ref f), some (.ref a), some (.ref g), some (.ref b'), some (.ref d), some m]) rfl ?_
        refine ⟨_, rfl, .inl ⟨rfl, _, SqL.of eg⟩, _, rfl, g, _, _, rfl, rfl, eg, Nat.lt_of_le_of_lt (by rw [Paired.length hms, lms]; omega : ys.length ≤ 1000) (by decide), ?_⟩
        have kl := KpT.lst (o := .lst (ys ++ [m])) eg
        refine ⟨_, _, b', ms ++ [pr.2], pr.1, _, rfl, hi, kl.tup eb', by rw [show k - (i + 1) = j by omega]; exact hp1, upd_same, par_snoc (par_map (fun v z h => kl.mv h) hms) (kl.mv hm), by rw [List.length_append, lms]; rfl, ChainP.snoc hp (by rw [lms]; exact hj) hp1 hp2, by rw [upd_ne (Ne.symm npg)]; exact ep, Same.upd_new s3 ngH⟩
    · rintro σ H3 ⟨v4, v5, b, ms, q', ys, rfl, ik, eb, hq', eg, hms, lms, hp, ep, s3⟩
      rw [ldr] at hq' lms
      rw [Nat.sub_self] at hq'
      obtain rfl := List.mem_singleton.mp hq'
      refine ⟨_, rfl, g, ys, rfl, SqL.of eg, fun u nu => ?_⟩
      have s4 := Same.new (o := .tup ys.reverse) nu
      exact kk u ys.reverse ms.reverse _ upd_same (par_rev (par_map (fun v z h => h.kp (.of_same s4)) hms)) (by rw [List.length_reverse, lms]) (by rw [List.reverse_reverse]; exact hp) (s3.trans s4)
end
end Y
set_option Elab.async false
set_option linter.all false
set_option maxRecDepth 100000
set_option maxHeartbeats 4000000
namespace Y
open PySem L2
/-! ### rows_in, layers, greatest -/
abbrev sRin : Stmt := top 999
abbrev sLys : Stmt := top 999
abbrev sGr : Stmt := top 999
def numV : V → Int
  | .int z => z
  | _ => 0
theorem numV_ints (r : List Int) : (r.map V.int).map numV = r := by
  rw [List.map_map]
  exact (List.map_congr_left fun _ _ => rfl).trans (List.map_id r)
/-- the row that stands at a value -/
def rowAt (H : Hp) : V → List Int
  | .ref b => match H b with
    | some (.tup xs) => xs.map numV
    | _ => []
  | _ => []
theorem RowV.at_ {H : Hp} {v : V} {r : List Int} (h : RowV H v r) : rowAt H v = r := by
  obtain ⟨b, rfl, e⟩ := h
  show (match H b with | some (.tup xs) => xs.map numV | _ => []) = r
  rw [e]
  exact numV_ints r
/-- M is L, ascending -/
structure SortedOf (M L : List Rw) : Prop where
  perm : M.Perm L
  asc : M.Pairwise RowLe
theorem rowLe_anti : ∀ {a b : Rw}, RowLe a b → RowLe b a → a = b
  | [], [], _, _ => rfl
  | [], _ :: _, _, h => by cases (show HT.lexLt [] _ = false from h)
  | _ :: _, [], h, _ => by cases (show HT.lexLt [] _ = false from h)
  | x :: a, y :: b, h1, h2 => by
    have h1 : HT.lexLt (y :: b) (x :: a) = false := h1
    have h2 : HT.lexLt (x :: a) (y :: b) = false := h2
    rw [HT.lexLt_cons] at h1 h2
    by_cases c : x = y
    · subst c
      rw [if_pos rfl] at h1 h2
      rw [rowLe_anti (a := a) (b := b) h1 h2]
    · rw [if_neg (Ne.symm c)] at h1
      rw [if_neg c] at h2
      have := of_decide_eq_false h1
      have := of_decide_eq_false h2
      omega
theorem SortedOf.uniq {M M' L : List Rw} (h : SortedOf M L) (h' : SortedOf M' L) : M = M' :=
  (h.perm.trans h'.perm.symm).eq_of_pairwise (fun a b _ _ h1 h2 => rowLe_anti h1 h2) h.asc h'.asc
theorem sorted_uniq : ∀ {Ls Ms Ms' : List (List Rw)}, Paired SortedOf Ms Ls → Paired SortedOf Ms' Ls → Ms = Ms'
  | _, _, _, .nil, .nil => rfl
  | _, _, _, .cons a s, .cons b t => by rw [a.uniq b, sorted_uniq s t]
theorem rows_at {H : Hp} {vs : List V} {L : List Rw} (h : Paired (RowV H) vs L) : vs.map (rowAt H) = L := by
  induction h with
  | nil => rfl
  | cons a _ ih => rw [List.map_cons, ih, a.at_]
theorem rows_sorted {K : PySem.W.Frag} {H : Hp} {vs ys : List V} {L : List Rw} (pr : Paired (RowV H) vs L) (hp : ys.Perm vs) (hs : ys.Pairwise (fun x y => ∀ n m, TupI K H x n → TupI K H y m → RowLe n m)) : ∃ M, Paired (RowV H) ys M ∧ SortedOf M L := by
  have rowY : ∀ v ∈ ys, RowV H v (rowAt H v) := fun v hv => by
    obtain ⟨j, hj⟩ := List.mem_iff_getElem?.mp (hp.mem_iff.mp hv)
    obtain ⟨r, _, h⟩ := par_get pr hj
    rw [h.at_]
    exact h
  refine ⟨ys.map (rowAt H), ?_, ⟨?_, ?_⟩⟩
  · have : ∀ l : List V, (∀ v ∈ l, RowV H v (rowAt H v)) → Paired (RowV H) l (l.map (rowAt H)) := by
      intro l
      induction l with
      | nil => intro _; exact .nil
      | cons a l ih =>
        intro h
        exact .cons (h a List.mem_cons_self) (ih fun v hv => h v (List.mem_cons_of_mem _ hv))
    exact this ys rowY
  · have := hp.map (rowAt H)
    rwa [rows_at pr] at this
  · rw [List.pairwise_map]
    refine List.Pairwise.imp_of_mem (fun {u v} hu hv h => ?_) hs
    obtain ⟨b, eb, hb'⟩ := rowY u hu
    obtain ⟨b2, eb2, hb2⟩ := rowY v hv
    exact h _ _ ⟨b, eb, SqT.of hb'⟩ ⟨b2, eb2, SqT.of hb2⟩
theorem keys_rows {H : Hp} {kvs : List (List Key × V)} {bs : List Addr} {L : List Rw} (h : IsKeys H kvs bs) (k : KeysD kvs L) : Paired (RowV H) (bs.map V.ref) L := by
  unfold IsKeys at h
  induction h generalizing L with
  | nil => cases k; exact .nil
  | cons a _ ih =>
    cases k with
    | cons p q => exact .cons ⟨_, rfl, by rw [p, keyR_kV] at a; exact a⟩ (ih q)
def RowsV (H : Hp) (v : V) (M : List Rw) : Prop := ∃ t vs, v = .ref t ∧ H t = some (.tup vs) ∧ Paired (RowV H) vs M
def LayersV (H : Hp) (v : V) (Ms : List (List Rw)) : Prop := ∃ t vs, v = .ref t ∧ H t = some (.tup vs) ∧ Paired (RowsV H) vs Ms
theorem RowsV.kp {H H' : Hp} {v : V} {M : List Rw} (s : ∀ b xs, H b = some (.tup xs) → H' b = some (.tup xs)) (h : RowsV H v M) : RowsV H' v M := by
  obtain ⟨t, vs, e, h1, h2⟩ := h
  exact ⟨t, vs, e, s _ _ h1, par_map (fun _ _ h => h.kp s) h2⟩
theorem LayersV.kp {H H' : Hp} {v : V} {M : List (List Rw)} (s : ∀ b xs, H b = some (.tup xs) → H' b = some (.tup xs)) (h : LayersV H v M) : LayersV H' v M := by
  obtain ⟨t, vs, e, h1, h2⟩ := h
  exact ⟨t, vs, e, s _ _ h1, par_map (fun _ _ h => h.kp s) h2⟩
theorem cut_last (xs : List V) : cutV xs none (some (-1)) = xs.take (xs.length - 1) := by
  unfold cutV HT.sIx
  show (xs.drop 0).take ((if (-1 : Int) < 0 then ((-1 : Int) + (xs.length : Int)).toNat else min (-1 : Int).toNat xs.length) - 0) = _
  rw [if_pos (by decide)]
  rw [List.drop_zero, Nat.sub_zero]
  congr 1
  omega
theorem cr_sortedDRK {X : Cx} {K : PySem.W.Frag} (hc : X.calm = true) (e : X.K = K) : CallR X (.builtin "sorted") (rSortDR K) := by
  subst e
  exact cr_sortedDR hc
theorem par_take {α β : Type} {R : α → β → Prop} {l : List α} {m : List β} (h : Paired R l m) : ∀ k, Paired R (l.take k) (m.take k) := by
  induction h with
  | nil => intro k; rw [List.take_nil, List.take_nil]; exact .nil
  | cons a _ ih =>
    intro k
    cases k with
    | zero => exact .nil
    | succ k => exact .cons a (ih k)
def spRin (K : PySem.W.Frag) : Sp := fun vs H Q _ => ∃ (f : Addr) (ds : List V) (pss : List (List (Rw × List Pr))), vs = [.ref f] ∧ H f = some (.lst ds) ∧ Paired (LayD K H) ds pss ∧ ds.length ≤ 4000 ∧ (∀ ps ∈ pss, ps.length ≤ 3125 ∧ ∀ p ∈ ps, p.1 ≠ []) ∧
  ∀ v Ms H', LayersV H' v Ms → Paired SortedOf Ms ((pss.take (pss.length - 1)).map fun ps => ps.map (·.1)) → Same H H' → Q v H'
section
variable {P : Program} {w : World} {K : PySem.W.Frag} {mg : Str → Option Value} {base : Heap} {CM fSe fRi fLy : Addr}
/-- layers: what is asked, and what comes -/
def spLys (K : PySem.W.Frag) (CM : Addr) : Sp := fun vs H Q E => ∃ (x a : Addr) (n d : Nat) (ts : List (Int × Int)) (rs : List (List Int)) (r : Rw) (most : Int), vs = [.ref x, .ref a, .int most] ∧ YObj K H x n ts rs ∧ YP n ts rs ∧ n ≤ 5 ∧
  (SqL K H a (r.map V.int) ∨ H a = some (.tup (r.map V.int))) ∧ r.length = n ∧ (∀ z ∈ r, 0 ≤ z) ∧ Dep (stepsV ts rs) r d ∧
  ((((Sn (stepsV ts rs) r d).length : Int) ≤ most ∧ ∀ v Ms H', LayersV H' v Ms → Paired SortedOf Ms ((List.range (d + 1)).map (Ly (stepsV ts rs) r)) → Same H H' → Q v H') ∨
   (most < ((Sn (stepsV ts rs) r d).length : Int) ∧ RaisedF CM [("most", .int most)] H E))
theorem Dep.stop {S : StF} {r : Rw} {d : Nat} (h : Dep S r d) : Stop S r none (d + 1) := ⟨.inl h.nil, fun i hi => ⟨h.ne i (by omega), rfl⟩⟩
theorem range_take {β : Type} (f : Nat → β) (d : Nat) : ((List.range (d + 1 + 1)).map f).take (((List.range (d + 1 + 1)).map f).length - 1) = (List.range (d + 1)).map f := by
  rw [List.range_succ, List.map_append, List.length_append, List.length_map, List.length_range]
  show (List.map f (List.range (d + 1)) ++ [f (d + 1)]).take (d + 1) = _
  rw [List.take_append_of_le_length (by rw [List.length_map, List.length_range]; exact Nat.le_refl _), List.take_of_length_le (by rw [List.length_map, List.length_range]; exact Nat.le_refl _)]
theorem pk_ok {n : Nat} {ts : List (Int × Int)} {rs : List (List Int)} {r : Rw} (yp : YP n ts rs) (hl : r.length = n) (n5 : n ≤ 5) (k : Nat) : (pkL (stepsV ts rs) r k).length ≤ 3125 ∧ ∀ p ∈ pkL (stepsV ts rs) r k, p.1 ≠ [] := by
  refine ⟨?_, fun p hp e => ?_⟩
  · have := ly_len yp hl n5 (r := r) k
    rw [← pkL_keys, List.length_map] at this
    exact this
  · have m : p.1 ∈ Ly (stepsV ts rs) r k := by rw [← pkL_keys]; exact List.mem_map.mpr ⟨p, hp, rfl⟩
    have := (ly_perm yp hl k _ m).length_eq
    rw [e, hl] at this
    have := yp.n1
    simp at *
    omega
end
end Y
set_option Elab.async false
set_option linter.all false
set_option maxRecDepth 100000
set_option maxHeartbeats 4000000
namespace Y
open PySem L2
/-! ### counts_in -/
abbrev sCt : Stmt := top 26
abbrev NCt : List Str := ["found", "counts", "stand", "layer", "ahead", "_"]
def cnt (S : StF) (r : Rw) : Nat → Rw → Int
  | 0, _ => 1
  | k + 1, x => ((into (edges S (Ly S r k)) x).map fun p => cnt S r k p.1).sum
def cW (S : StF) (r : Rw) : Nat → List (Rw × Int)
  | 0 => [(r, 1)]
  | k + 1 => cW S r k ++ (Ly S r (k + 1)).map fun x => (x, cnt S r (k + 1) x)
abbrev IntK : V → Int → Prop := fun v z => v = V.int z
theorem cW_keys (S : StF) (r : Rw) : ∀ k, (cW S r k).map (·.1) = Sn S r k
  | 0 => rfl
  | k + 1 => by
    show (cW S r k ++ _).map (·.1) = _
    rw [List.map_append, cW_keys S r k, Sn_succ, List.map_map]
    congr 1
    exact List.map_id _
theorem cW_mem {S : StF} {r : Rw} {i : Nat} {x : Rw} (hx : x ∈ Ly S r i) : ∀ {k : Nat}, i ≤ k → (x, cnt S r i x) ∈ cW S r k := fun {k} => by
  induction k with
  | zero =>
    intro h
    obtain rfl : i = 0 := by omega
    rw [List.mem_singleton.mp hx]
    exact List.mem_singleton.mpr rfl
  | succ k ih =>
    intro h
    show _ ∈ cW S r k ++ _
    rcases Nat.lt_or_ge k i with h1 | h1
    · obtain rfl : i = k + 1 := by omega
      exact List.mem_append_right _ (List.mem_map.mpr ⟨x, hx, rfl⟩)
    · exact List.mem_append_left _ (ih h1)
theorem into_mem {es : List Ed} {b : Rw} {p : Pr} (h : p ∈ into es b) : ∃ e ∈ es, e.1 = p.1 ∧ e.2.1 = p.2 ∧ e.2.2 = b := by
  unfold into at h
  obtain ⟨e, he, rfl⟩ := List.mem_map.mp h
  obtain ⟨h1, h2⟩ := List.mem_filter.mp he
  exact ⟨e, h1, rfl, rfl, of_decide_eq_true h2⟩
theorem keysD_map {kvs : List (List Key × V)} {L : List Rw} (h : KeysD kvs L) : kvs.map (·.1) = L.map keyR := by
  induction h with
  | nil => rfl
  | cons a _ ih => rw [List.map_cons, List.map_cons, ih, a]
theorem valV_nth {kvs : List (List Key × V)} (nd : (kvs.map (·.1)).Nodup) {j : Nat} {k : List Key} {v : V} (h : kvs[j]? = some (k, v)) : valV kvs k = some v := by
  induction kvs generalizing j with
  | nil => cases h
  | cons a r ih =>
    have n1 := List.nodup_cons.mp (show (a.1 :: r.map (·.1)).Nodup from nd)
    cases j with
    | zero => cases Option.some.inj h; exact valV_pos rfl
    | succ j =>
      have h : r[j]? = some (k, v) := h
      rw [valV_neg fun z => n1.1 (by rw [z]; exact List.mem_map.mpr ⟨_, List.mem_of_getElem? h, rfl⟩)]
      exact ih n1.2 h
def spCt (K : PySem.W.Frag) : Sp := fun vs H Q _ => ∃ (f : Addr) (ds : List V) (S : StF) (r : Rw) (k : Nat), vs = [.ref f] ∧ H f = some (.lst ds) ∧ Paired (LayD K H) ds ((List.range (k + 1)).map (pkL S r)) ∧ (∀ i, (Sn S r i).length ≤ 3125) ∧ (∀ x, (S x).length ≤ 120) ∧
  ∀ g kvs H', H g = none → H' g = some (.dT kvs) → KVs IntK kvs (cW S r k) → Same H H' → Q (.ref g) H'
section
variable {P : Program} {w : World} {K : PySem.W.Frag} {mg : Str → Option Value} {base : Heap}
theorem scCt : FnScope NCt ["found"] (defScope sCt) := ⟨rfl, rfl, rfl, by decide +kernel, rfl, by decide +kernel, by decide +kernel⟩
theorem cut_tail (x : V) (xs : List V) : cutV (x :: xs) (some 1) none = xs := by
  unfold cutV HT.sIx
  show ((x :: xs).drop (if (1 : Int) < 0 then ((1 : Int) + ((x :: xs).length : Int)).toNat else min (1 : Int).toNat (x :: xs).length)).take ((x :: xs).length - (if (1 : Int) < 0 then ((1 : Int) + ((x :: xs).length : Int)).toNat else min (1 : Int).toNat (x :: xs).length)) = _
  rw [if_neg (by decide)]
  have : min (1 : Int).toNat (x :: xs).length = 1 := by
    show min 1 (xs.length + 1) = 1
    omega
  rw [this]
  show xs.take (xs.length + 1 - 1) = xs
  rw [Nat.add_sub_cancel, List.take_length]
theorem ok_ct {f : Addr} {fd : FuncData} (F : Fun K "counts_in" "counts_in" sCt f fd) (gS : mg "sum" = none) : FnOk P w K mg base CX0 1 f fd ["found"] (spCt K) := by
  refine F.ok scCt (fun vs H Q E h => ?_) (fun cdv A outer s H vs Q E hr h => ?_)
  · obtain ⟨f, ds, S, r, k, rfl, _⟩ := h
    rfl
  · obtain ⟨f, ds, S, r, k, rfl, hf, pd, hB, hS, fin⟩ := h
    have hu := hu_of hr
    refine ⟨_, pss_cons (ps_lock (ps_set (i := 1) scCt.nd rfl (Or.inr rfl) (pe_dcT (own := [("stand", 2)]) (g := gName 2) (tt := tYes) hu rfl scCt.nd (pi_keys (pe_ix ix_list (pv 0) pe_int (fun _ _ => rfl))) (blkOk_by (N := NCt) (sc := defScope sCt) (by decide +kernel))
        (fun _ _ _ _ _ => pg_name (i := 2) scCt.nd rfl (Or.inl rfl)) (fun _ _ _ _ _ => pts_nil) (fun _ _ _ _ _ => pv 2) (fun _ _ _ _ _ => pe_int))))
      (pss_cons (ps_for PassesOwn.never rfl (pi_list (pe_slice sl_list (pv 0) (po_some pe_int) po_none)) (pg_name (i := 3) scCt.nd rfl (Or.inl rfl))
        (pss_one (ps_lock (ps_for PassesOwn.never rfl (pi_keys (pv 3)) (pg_name (i := 2) scCt.nd rfl (Or.inl rfl))
          (pss_one (ps_dput hu (pv 1) (pv 2) (pe_callB (cr_sum rfl) (by rfl) gS (by decide +kernel) (pa_cons
            (pe_lc (own := [("ahead", 4), ("_", 5)]) (g := gTup K 2 (gCons (gName 4) (gCons (gName 5) gNil))) (tt := tYes) rfl scCt.nd (pi_list (pe_dget hu (pv 3) (pv 2) (fun _ _ => rfl))) (blkOk_by (N := NCt) (sc := defScope sCt) (by decide +kernel))
              (fun _ _ _ _ _ => pgT (K := K) (n := 2) rfl rfl (pgs_cons (pg_name (i := 4) scCt.nd rfl (Or.inl rfl)) (pgs_cons (pg_name (i := 5) scCt.nd rfl (Or.inl rfl)) pgs_nil)) rfl rfl) (fun _ _ _ _ _ => pts_nil)
              (fun _ _ _ _ _ => pe_dget hu (pv 1) (pv 4) (fun _ _ => rfl))) pa_nil)) rfl))))))
      (pss_one (ps_ret (pv 1)))), ?_⟩
    have pd0 := pd
    rw [show (List.range (k + 1)).map (pkL S r) = pkL S r 0 :: (List.range k).map (fun i => pkL S r (i + 1)) by rw [List.range_succ_eq_map, List.map_cons, List.map_map]; rfl] at pd
    cases pd with
    | cons a0 pt =>
    rename_i v0 dt
    obtain ⟨g0, kv0, rfl, eg0, hk0⟩ := a0
    refine ⟨g0, .dT kv0, eg0, trivial, fun od => ?_⟩
    have b1 : ∀ b o, b ≠ g0 → H b = some o → (upd H g0 (.frz od (.dT kv0))) b = some o := fun b o n e => by rw [upd_ne n]; exact e
    have eg1 : (upd H g0 (.frz od (.dT kv0))) g0 = some (.frz od (.dT kv0)) := upd_same
    have fg0 : f ≠ g0 := ne_of hf eg0 (by intro z; cases z)
    have ef1 := b1 f _ fg0 hf
    have nn : ∀ {a : Addr}, (upd H g0 (.frz od (.dT kv0))) a = none → H a = none := fun {a} h => by
      by_cases c : a = g0
      · rw [c, upd_same] at h; cases h
      · rw [upd_ne c] at h; exact h
    generalize upd H g0 (.frz od (.dT kv0)) = H1 at b1 eg1 ef1 nn ⊢
    refine ⟨_, rfl, f, _, ((0 : Nat) : Int), _, rfl, rfl, SqL.of ef1, atI_nat (j := 0) rfl, g0, od, rfl, .inr ⟨kv0, eg1, fun D nD => ?_⟩⟩
    have nDH := nn nD
    have Dg0 : D ≠ g0 := fun z => by rw [z, eg1] at nD; cases nD
    refine dcT_it walk_keysT (fun i H' => ∃ kvs, H' D = some (.dT kvs) ∧ KVs IntK kvs ((cW S r 0).take i) ∧ H' g0 = some (.frz od (.dT kv0)) ∧ (∀ b o, b ≠ g0 → H b = some o → H' b = some o))
      ⟨[], upd_same, .nil, by rw [upd_ne (Ne.symm Dg0)]; exact eg1, fun b o n e => by rw [upd_ne (ne_of_none e nDH)]; exact b1 b o n e⟩ (fun i H' _ ⟨_, _, _, e, _⟩ => e) ?_ ?_
    · rintro i y H2 H2' hi ⟨kvs, eD, hk, eg, b2⟩ ⟨rfl, key, val, q, hkv, rfl, eq⟩
      obtain ⟨pr, epr, hkey, _⟩ := par_get hk0 hkv
      obtain rfl : key = keyR pr.1 := hkey
      have i0 : i = 0 := by
        have h1 := (List.getElem?_eq_some_iff.mp epr).1
        have : (pkL S r 0).length = 1 := rfl
        omega
      subst i0
      obtain rfl : (r, []) = pr := Option.some.inj epr
      cases hk
      refine ⟨rfl, ?_⟩
      refine yes_if ?_
      refine ⟨_, rfl, _, _, q, rfl, eq, eD, (by show 0 < sizeLine; decide), _, upd_same, ?_, by rw [upd_ne (Ne.symm Dg0)]; exact eg, fun b o n e => by rw [upd_ne (ne_of_none e nDH)]; exact b2 b o n e⟩
      exact .cons ⟨rfl, rfl⟩ .nil
    · rintro H2 ⟨kvs, eD, hk, eg, b2⟩
      have lk0 : kv0.length = 1 := hk0.len
      rw [lk0] at hk
      refine gset_go (σ' := [some (.ref f), some (.ref D), none, none, none, none]) rfl ?_
      dsimp only
      refine ⟨eg, ?_⟩
      have s2 : Same H (upd H2 g0 (.dT kv0)) := fun b o e => by
        by_cases c : b = g0
        · rw [c] at e ⊢
          rw [upd_same, ← eg0, e]
        · rw [upd_ne c]
          exact b2 b o c e
      have eD2 : (upd H2 g0 (.dT kv0)) D = some (.dT kvs) := by rw [upd_ne Dg0]; exact eD
      generalize upd H2 g0 (.dT kv0) = H3 at s2 eD2 ⊢
      have ef3 := s2 _ _ hf
      refine ⟨_, rfl, _, rfl, f, _, rfl, SqL.of ef3, fun p np => ⟨p, rfl, ⟨_, SqL.of upd_same⟩, ?_⟩⟩
      rw [show cutV (V.ref g0 :: dt) (some 1) none = dt from cut_tail _ _]
      have s3 := Same.new (o := .lst dt) np
      have ep3 : (upd H3 p (.lst dt)) p = some (.lst dt) := upd_same
      have eD3 := s3 _ _ eD2
      have s23 := s2.trans s3
      generalize upd H3 p (.lst dt) = H4 at s3 ep3 eD3 s23 ⊢
      have ldt : dt.length = k := by rw [Paired.length pt, List.length_map, List.length_range]
      refine for_list (K := K) (a := p) (xs := dt) (fun i σ H' => ∃ (v2 v3 : Option V) (kvs : List (List Key × V)), σ = [some (.ref f), some (.ref D), v2, v3, none, none] ∧ H' D = some (.dT kvs) ∧ KVs IntK kvs (cW S r i) ∧ H' p = some (.lst dt) ∧ (∀ b o, b ≠ D → H4 b = some o → H' b = some o))
        ⟨none, none, kvs, rfl, eD3, hk, ep3, fun b o _ e => e⟩ (fun i σ H' _ ⟨_, _, _, _, _, _, e, _⟩ => SqL.of e) ?_ ?_
      · rintro i v σ H5 hv ⟨v2, v3, kvs, rfl, eD5, hk, ep5, b5⟩
        obtain ⟨ps, eps, g, kvg, rfl, egH, hkg⟩ := par_get pt hv
        have ik : i < k := by rw [← ldt]; exact (List.getElem?_eq_some_iff.mp hv).1
        obtain rfl : pkL S r (i + 1) = ps := by
          rw [List.getElem?_map, List.getElem?_range ik] at eps
          exact Option.some.inj eps
        have gD : g ≠ D := ne_of_none egH nDH
        have eg5 := b5 g _ gD (s23 _ _ egH)
        refine gset_go (σ' := [some (.ref f), some (.ref D), v2, some (.ref g), none, none]) rfl ?_
        refine ⟨g, .dT kvg, eg5, trivial, fun od2 => ?_⟩
        refine ⟨_, rfl, g, od2, rfl, .inr ⟨kvg, upd_same, ?_⟩⟩
        have b6 : ∀ b o, b ≠ g → H5 b = some o → (upd H5 g (.frz od2 (.dT kvg))) b = some o := fun b o n e => by rw [upd_ne n]; exact e
        have eg6 : (upd H5 g (.frz od2 (.dT kvg))) g = some (.frz od2 (.dT kvg)) := upd_same
        have eD6 := b6 D _ (Ne.symm gD) eD5
        have ep6 := b6 p _ (ne_of ep5 eg5 (by intro z; cases z)) ep5
        generalize upd H5 g (.frz od2 (.dT kvg)) = H6 at b6 eg6 eD6 ep6 ⊢
        have kdg := hkg.keysD
        rw [pkL_keys] at kdg
        refine for_it walk_keysT (fun j σ H' => ∃ (v2 : Option V) (kvs : List (List Key × V)), σ = [some (.ref f), some (.ref D), v2, some (.ref g), none, none] ∧ H' g = some (.frz od2 (.dT kvg)) ∧ H' D = some (.dT kvs) ∧ KVs IntK kvs (cW S r i ++ ((Ly S r (i + 1)).take j).map fun x => (x, cnt S r (i + 1) x)) ∧ H' p = some (.lst dt) ∧ (∀ b o, b ≠ D → b ≠ g → H4 b = some o → H' b = some o))
          ⟨v2, kvs, rfl, eg6, eD6, by rw [List.take_zero, List.map_nil, List.append_nil]; exact hk, ep6, fun b o n1 n2 e => b6 b o n2 (b5 b o n1 e)⟩ (fun j σ H' _ ⟨_, _, _, e, _⟩ => e) ?_ ?_
        · rintro j yk σ H7 H7' hj ⟨v2, kvs, rfl, eg7, eD7, hk, ep7, b7⟩ ⟨rfl, key, val, q, hkv, rfl, eq⟩
          obtain ⟨x, ex, hkey⟩ := par_get kdg hkv
          obtain rfl : key = keyR x := hkey
          obtain ⟨pr, epr, _, hval⟩ := par_get hkg hkv
          obtain rfl : (x, into (edges S (Ly S r i)) x) = pr := by
            have h1 : (layP (Sn S r i) (edges S (Ly S r i)))[j]? = some pr := epr
            unfold layP at h1
            rw [List.getElem?_map, show (fresh (Sn S r i) (edges S (Ly S r i)))[j]? = some x from ex] at h1
            exact Option.some.inj h1
          obtain ⟨l, ys, rfl, elH, pys⟩ := hval
          have pys : Paired (PairV K H) ys (into (edges S (Ly S r i)) x) := pys
          have el7 := b7 l _ (ne_of_none elH nDH) (ne_of elH egH (by intro z; cases z)) (s23 _ _ elH)
          have ndk : ((cW S r i ++ ((Ly S r (i + 1)).take j).map fun x => (x, cnt S r (i + 1) x)).map (·.1)).Nodup := by
            have nd := Sn_nodup (S := S) (r := r) (i + 1)
            rw [Sn_succ, ← List.take_append_drop j (Ly S r (i + 1)), ← List.append_assoc] at nd
            rw [List.map_append, cW_keys, List.map_map]
            rw [show ((Ly S r (i + 1)).take j).map ((fun p : Rw × Int => p.1) ∘ fun x => (x, cnt S r (i + 1) x)) = (Ly S r (i + 1)).take j from List.map_id _]
            exact (List.nodup_append.mp nd).1
          have hxn : x ∉ (cW S r i ++ ((Ly S r (i + 1)).take j).map fun x => (x, cnt S r (i + 1) x)).map (·.1) := by
            have nd := Sn_nodup (S := S) (r := r) (i + 1)
            rw [Sn_succ, ← List.take_append_drop (j + 1) (Ly S r (i + 1)), take_next ex, ← List.append_assoc, ← List.append_assoc, List.append_assoc] at nd
            rw [List.map_append, cW_keys, List.map_map]
            rw [show ((Ly S r (i + 1)).take j).map ((fun p : Rw × Int => p.1) ∘ fun x => (x, cnt S r (i + 1) x)) = (Ly S r (i + 1)).take j from List.map_id _]
            exact fun z => (List.nodup_append.mp nd).2.2 x z x (by simp) rfl
          refine gset_go (σ' := [some (.ref f), some (.ref D), some (.ref q), some (.ref g), none, none]) rfl ?_
          have hvl : valV kvg (keyR x) = some (.ref l) := by
            obtain ⟨v', h1, h2⟩ := hkg.at (by rw [pkL_keys]; exact Ly_nodup _) (List.mem_of_getElem? epr)
            have : (kvg.map (·.1)).Nodup := by
              have e1 : kvg.map (·.1) = (Ly S r (i + 1)).map keyR := keysD_map kdg
              rw [e1]
              exact List.Pairwise.map _ (fun a b n z => n (keyR_inj z)) (Ly_nodup _)
            exact valV_nth this hkv
          refine ⟨_, rfl, _, rfl, g, .ref l, rfl, .inr ⟨kvg, keyR x, q, .inr ⟨od2, eg7⟩, rfl, eq, hvl.symm⟩, l, rfl, ⟨_, SqL.of el7⟩, fun D2 nD2 => ?_⟩
          have lys : ys.length ≤ 400000 := by
            rw [Paired.length pys]
            have h1 := into_len (edges S (Ly S r i)) x
            have h2 := edges_len (S := S) (m := 120) (L := Ly S r i) fun r _ => hS r
            have h3 : (Ly S r i).length ≤ 3125 := by
              have := hB i
              cases i with
              | zero => show 1 ≤ 3125; decide
              | succ i => rw [Sn_succ, List.length_append] at this; omega
            have : (Ly S r i).length * 120 ≤ 3125 * 120 := Nat.mul_le_mul_right _ h3
            omega
          refine lc_list (K := K) (a := l) (xs := ys) (fun m H' => H' D2 = some (.lst ((((into (edges S (Ly S r i)) x).take m).map fun p => cnt S r i p.1).map V.int)) ∧ Same H7' H') ⟨upd_same, Same.new nD2⟩ (fun m H' _ h => SqL.of (h.2 _ _ el7)) (fun m v H8 hv h => ?_) (fun H8 h => ?_)
          · obtain ⟨eD8, s8⟩ := h
            obtain ⟨pp, epp, t, ah, mv, rfl, ht, ⟨ab, rfl, hab⟩, _⟩ := par_get pys hv
            obtain ⟨e, he, e1, _, _⟩ := into_mem (List.mem_of_getElem? epp)
            have hin : pp.1 ∈ Ly S r i := by rw [← e1]; exact (mem_edges.mp he).1
            have tup7 : ∀ {b : Addr} {xs : List V}, H b = some (.tup xs) → H8 b = some (.tup xs) := fun {b xs} e => s8 _ _ (b7 b _ (ne_of_none e nDH) (ne_of e egH (by intro z; cases z)) (s23 _ _ e))
            refine ⟨t, _, rfl, SqT.of (tup7 ht), rfl, _, _, rfl, _, _, rfl, rfl, rfl, ?_⟩
            refine yes_if ?_
            obtain ⟨w', hw', rfl⟩ := hk.at ndk (p := (pp.1, cnt S r i pp.1)) (List.mem_append_left _ (cW_mem hin (Nat.le_refl _)))
            refine ⟨_, rfl, _, rfl, D, _, rfl, hw' ▸ DGet.t (s8 _ _ eD7) (k := keyR pp.1) (by rw [keyR_kV]; exact tup7 hab), _, eD8, ?_, ?_, Same.upd_new s8 nD2⟩
            · rw [List.length_map, List.length_map]
              exact Nat.lt_of_le_of_lt (by rw [List.length_take]; have := Paired.length pys; omega : _ ≤ 400000) (by decide)
            · rw [upd_same, take_next epp, List.map_append, List.map_append]
              rfl
          · obtain ⟨eD8, s8⟩ := h
            rw [Paired.length pys, List.take_length] at eD8
            refine ⟨D2, _, rfl, SqL.of eD8, ?_⟩
            have lkv : kvs.length ≤ 3125 := by
              rw [hk.len, ← List.length_map (f := (·.1)), List.map_append, cW_keys, List.map_map, List.length_append, List.length_map, List.length_take]
              have := hB (i + 1)
              rw [Sn_succ, List.length_append] at this
              omega
            refine ⟨_, rfl, _, rfl, D, _, rfl, DPut.t (s8 _ _ eD7) (s8 _ _ eq) (Nat.lt_of_le_of_lt lkv (by decide)), ?_⟩
            refine ⟨_, _, rfl, by rw [upd_ne gD]; exact s8 _ _ eg7, upd_same, ?_, by rw [upd_ne (ne_of ep7 eD7 (by intro z; cases z))]; exact s8 _ _ ep7, fun b o n1 n2 e => by rw [upd_ne n1]; exact s8 _ _ (b7 b o n1 n2 e)⟩
            rw [take_next ex, List.map_append, ← List.append_assoc]
            exact hk.snoc hxn rfl
        · rintro σ H7 ⟨v2, kvs, rfl, eg7, eD7, hk, ep7, b7⟩
          rw [Paired.length kdg, List.take_length] at hk
          refine ⟨eg7, v2, _, kvs, rfl, by rw [upd_ne (Ne.symm gD)]; exact eD7, hk, by rw [upd_ne (ne_of ep7 eg7 (by intro z; cases z))]; exact ep7, fun b o n1 e => ?_⟩
          by_cases c : b = g
          · rw [c] at e ⊢
            rw [upd_same, ← e, s23 _ _ egH]
          · rw [upd_ne c]
            exact b7 b o n1 c e
      · rintro σ H5 ⟨v2, v3, kvs, rfl, eD5, hk, ep5, b5⟩
        rw [ldt] at hk
        exact ⟨_, rfl, fin D kvs H5 nDH eD5 hk fun b o e => b5 b o (ne_of_none e nDH) (s23 _ _ e)⟩
end
end Y
set_option Elab.async false
set_option linter.all false
set_option maxRecDepth 100000
set_option maxHeartbeats 4000000
namespace Y
open PySem L2
/-! ### greatest, least_count -/
abbrev sLc : Stmt := top 999
def spGr (K : PySem.W.Frag) (CM : Addr) : Sp := fun vs H Q E => ∃ (x a : Addr) (n d : Nat) (ts : List (Int × Int)) (rs : List (List Int)) (r : Rw) (most : Int), vs = [.ref x, .ref a, .int most] ∧ YObj K H x n ts rs ∧ YP n ts rs ∧ n ≤ 5 ∧
  (SqL K H a (r.map V.int) ∨ H a = some (.tup (r.map V.int))) ∧ r.length = n ∧ (∀ z ∈ r, 0 ≤ z) ∧ Dep (stepsV ts rs) r d ∧
  ((((Sn (stepsV ts rs) r d).length : Int) ≤ most ∧ ∀ q v M H', H' q = some (.tup [.int (d : Nat), v]) → RowsV H' v M → SortedOf M (Ly (stepsV ts rs) r d) → Same H H' → Q (.ref q) H') ∨
   (most < ((Sn (stepsV ts rs) r d).length : Int) ∧ RaisedF CM [("most", .int most)] H E))
def cntAt (S : StF) (r : Rw) (k : Nat) (q : Rw) : Int := if q ∈ Ly S r k then cnt S r k q else 0
def spLc (K : PySem.W.Frag) (CM : Addr) : Sp := fun vs H Q E => ∃ (x a b : Addr) (n k : Nat) (ts : List (Int × Int)) (rs : List (List Int)) (r q : Rw) (most : Int), vs = [.ref x, .ref a, .ref b, .int most] ∧ YObj K H x n ts rs ∧ YP n ts rs ∧ n ≤ 5 ∧
  (SqL K H a (r.map V.int) ∨ H a = some (.tup (r.map V.int))) ∧ (SqL K H b (q.map V.int) ∨ H b = some (.tup (q.map V.int))) ∧ r.length = n ∧ (∀ z ∈ r, 0 ≤ z) ∧ Stop (stepsV ts rs) r (some q) k ∧
  (((∀ i, i < k → ((Sn (stepsV ts rs) r i).length : Int) ≤ most) ∧ ∀ H', Same H H' → Q (.int (cntAt (stepsV ts rs) r k q)) H') ∨
   ((∃ i, i < k ∧ most < ((Sn (stepsV ts rs) r i).length : Int)) ∧ RaisedF CM [("most", .int most)] H E))
section
variable {P : Program} {w : World} {K : PySem.W.Frag} {mg : Str → Option Value} {base : Heap} {CM fSe fLy fCt : Addr}
end
end Y
set_option Elab.async false
set_option linter.all false
set_option maxRecDepth 100000
set_option maxHeartbeats 4000000
namespace Y
open PySem L2
/-! ### _law_moves: its list is a new one -/
def spMovesN (K : PySem.W.Frag) : Sp := fun vs H Q _ => ∃ (q s : Addr) (n : Nat) (ts : List (Int × Int)) (rs : List (List Int)) (st : List Int), vs = [.ref q, .ref s] ∧ YdAt K H q n ts rs ∧ ts.length ≤ 1000 ∧ rs.length ≤ 1000 ∧ (∀ t ∈ ts, TieOk n t) ∧ SqT K H s (st.map V.int) ∧ st.length = n ∧
  ∀ l ys H', H l = none → H' l = some (.lst ys) → MvsAt K H' ys (movesOf ts rs st) → Same H H' → Q (.ref l) H'
section
variable {P : Program} {w : World} {K : PySem.W.Frag} {mg : Str → Option Value} {base : Heap} {fDraw : Addr}
theorem ok_movesN {f : Addr} {fd : FuncData} (F : Fun K "_law_moves" "_law_moves" sMoves f fd) (T : TG K mg fDraw) : FnOk P w K mg base CX0 1 f fd ["_law_yard", "_law_stand"] (spMovesN K) := by
  refine F.ok scMoves (fun vs H Q E h => ?_) (fun cdv A outer s H vs Q E hr h => ?_)
  · obtain ⟨q, s, n, ts, rs, st, rfl, _⟩ := h
    rfl
  · obtain ⟨q, s, n, ts, rs, st, rfl, ⟨a, e, ys, zs, hq, ha, pa, he, pe⟩, hts, hrs, tok, hs, hst, k⟩ := h
    refine ⟨_, pss_cons (ps_setLc (own := [("_law_a", 3), ("_law_b", 4)]) (i := 2) (g := gTup K 2 (gCons (gName 3) (gCons (gName 4) gNil))) rfl scMoves.nd rfl rfl (sw_true rfl rfl rfl (by decide +kernel)) (pi_tup (pe_ix ix_tup (pv 0) pe_int (fun _ _ => rfl))) (blkOk_by (N := ["_law_yard", "_law_stand", "_law_found", "_law_a", "_law_b", "_law_k"]) (sc := defScope sMoves) (by decide +kernel))
        (fun _ _ _ _ _ => pgT (K := K) (n := 2) rfl rfl (pgs_cons (pg_name (i := 3) scMoves.nd rfl (Or.inl rfl)) (pgs_cons (pg_name (i := 4) scMoves.nd rfl (Or.inl rfl)) pgs_nil)) rfl rfl)
        (fun _ _ _ _ _ => pts_one (PW.pt (pw_and (pt_cmpR op_gt (pe_ix (ixT_at (K := K) rfl) (pv 1) (pv 3) (fun _ _ => rfl)) pe_int (nomark _)) (pw_and1 (pt_cmpR op_eq (pe_ix (ixT_at (K := K) rfl) (pv 1) (pv 4) (fun _ _ => rfl)) pe_int (nomark _))))))
        (fun _ _ _ _ _ => pe_tup (pa_cons pe_str (pa_cons (pv 3) (pa_cons (pv 4) pa_nil)))))
      (pss_one (ps_ret (pe_op op_cat (pv 2)
      (pe_lc (own := [("_law_k", 5)]) (g := gName 5) (tt := tYes) rfl scMoves.nd (pi_range1 (by rfl) T.range (pa_cons (pe_callB call_len_seq (by rfl) T.p.len PySem.boot_len (pa_cons (pe_ix ix_tup (pv 0) pe_int (fun _ _ => rfl)) pa_nil)) pa_nil)) (blkOk_by (N := ["_law_yard", "_law_stand", "_law_found", "_law_a", "_law_b", "_law_k"]) (sc := defScope sMoves) (by decide +kernel))
        (fun _ _ _ _ _ => pg_name (i := 5) scMoves.nd rfl (Or.inl rfl)) (fun _ _ _ _ _ => pts_nil) (fun _ _ _ _ _ => pe_tup (pa_cons pe_str (pa_cons (pv 5) pa_nil))))))), ?_⟩
    have hyl : ys.length = ts.length := ties_len pa
    have hzl : zs.length = rs.length := Paired.length pe
    refine ⟨_, rfl, q, _, 1, _, rfl, rfl, hq, atI_nat (j := 1) rfl, a, rfl, ⟨_, ha⟩, fun D hD => ?_⟩
    refine lc_tup (K := K) (a := a) (xs := ys) (fun i H' => ∃ ws, H' D = some (.lst ws) ∧ MvsAt K H' ws (((ts.take i).filter (canSlide st)).map slideOf) ∧ ws.length ≤ i ∧ Same H H') ⟨[], upd_same, .nil, Nat.le_refl 0, Same.new hD⟩ (fun i H' _ ⟨_, _, _, _, s⟩ => Same.seqT s ha) (fun i x H1 hx h => ?_) (fun H1 h => ?_)
    · obtain ⟨ws, eD, pw, lw, s1⟩ := h
      obtain ⟨t, et, b, rfl, hb⟩ := ties_get pa hx
      have hi : i < ts.length := by
        rcases Nat.lt_or_ge i ts.length with h | h
        · exact h
        · rw [List.getElem?_eq_none h] at et; cases et
      obtain ⟨a0, a1, b0, b1, _⟩ := tok t (List.mem_of_getElem? et)
      rw [← hst] at a1 b1
      refine ⟨b, _, rfl, Same.seqT s1 hb, rfl, _, _, rfl, _, _, rfl, rfl, rfl, ?_⟩
      have no : canSlide st t = false → ∃ ws, H1 D = some (.lst ws) ∧ MvsAt K H1 ws (((ts.take (i + 1)).filter (canSlide st)).map slideOf) ∧ ws.length ≤ i + 1 ∧ Same H H1 := fun c => ⟨ws, eD, by rw [take_next et, filter_snoc, c]; exact pw, by omega, s1⟩
      refine ⟨_, rfl, _, rfl, s, _, t.1, _, rfl, rfl, Same.seqT s1 hs, atI_st a0 a1, _, _, rfl, rfl, _, rfl, ?_⟩
      refine ifT (fun c1 => ?_) (fun c1 => ?_)
      · refine ⟨_, rfl, _, rfl, s, _, t.2, _, rfl, rfl, Same.seqT s1 hs, atI_st b0 b1, rfl, _, rfl, ?_⟩
        refine ifT (fun c2 => ?_) (fun c2 => ?_)
        · have c : canSlide st t = true := by
            unfold canSlide
            rw [dec_int] at c2
            rw [c1, decide_eq_true (eq_of_beq c2)]
            rfl
          refine ⟨_, rfl, _, rfl, (by show 3 ≤ sizeLine; decide), fun m nm => ?_⟩
          have e1 := Same.new nm (o := .tup [.str "slide", .int t.1, .int t.2]) _ _ eD
          refine ⟨ws, e1, Nat.lt_of_le_of_lt (by omega : ws.length ≤ 1001) (by decide), ws ++ [V.ref m], upd_same, ?_, by rw [List.length_append]; exact Nat.succ_le_succ lw, Same.upd_new (s1.trans (Same.new nm)) hD⟩
          rw [take_next et, filter_snoc, if_pos c, List.map_append]
          exact par_snoc (par_map (fun y m' h => (h.kp (.new nm)).off e1) pw) ⟨m, rfl, seqT_off (SqT.of upd_same) e1⟩
        · refine no ?_
          rw [dec_int] at c2
          have ne : ¬ gAt st t.2 = 0 := fun z => by rw [z] at c2; exact absurd c2 (by decide)
          show (decide (0 < gAt st t.1) && decide (gAt st t.2 = 0)) = false
          rw [decide_eq_false ne, Bool.and_false]
      · refine no ?_
        unfold canSlide
        rw [c1, Bool.false_and]
    · obtain ⟨ws, eD, pw, lw, s1⟩ := h
      rw [hyl, List.take_length] at pw
      refine ⟨_, rfl, _, rfl, q, _, 2, _, rfl, rfl, Same.seqT s1 hq, atI_nat (j := 2) rfl, e, zs, rfl, .inr (Same.seqT s1 he), (zs.length : Int), rfl, by omega, by omega, fun D2 hD2 => ?_⟩
      refine lc_turns (K := K) s1 hD2 (by omega) (fun v _ => rfl) (fun v => rfl) fun us H2 e2 p2 s2 => ?_
      have eD2 := s2 _ _ eD
      refine ⟨D, D2, ws, us, rfl, rfl, eD2, e2, Nat.le_trans (by rw [Paired.length p2, turns, List.length_map, List.length_range]; omega : ws.length + us.length ≤ 2000) (by decide), fun l nl => ?_⟩
      have hz : ((zs.length : Int)).toNat = rs.length := by omega
      rw [hz] at p2
      exact k l (ws ++ us) _ (Same.none (s1.trans s2) nl) upd_same (par_app (par_map (fun y m h => h.kp ((Kp.of_same s2).trans (.new nl))) pw) (par_map (fun y m h => h.kp (.new nl)) p2)) ((s1.trans s2).trans (Same.new nl))
end
end Y
set_option Elab.async false
set_option linter.all false
set_option maxRecDepth 100000
set_option maxHeartbeats 4000000
namespace Y
open PySem L2
/-! ### _law_reached -/
abbrev sRe : Stmt := top 47
abbrev NRe : List Str := ["_law_yard", "_law_stand", "_law_most", "_law_found", "_law_front", "_law_count", "_law_lap", "_law_fresh", "_law_one", "_law_move", "_law_other"]
def dW (S : StF) (r : Rw) : Nat → List (Rw × Int)
  | 0 => [(r, 0)]
  | k + 1 => dW S r k ++ (Ly S r (k + 1)).map fun x => (x, ((k + 1 : Nat) : Int))
theorem dW_keys (S : StF) (r : Rw) : ∀ k, (dW S r k).map (·.1) = Sn S r k
  | 0 => rfl
  | k + 1 => by
    show (dW S r k ++ _).map (·.1) = _
    rw [List.map_append, dW_keys S r k, Sn_succ, List.map_map]
    congr 1
    exact List.map_id _
def spRe (K : PySem.W.Frag) : Sp := fun vs H Q _ => ∃ (q s : Addr) (n d : Nat) (ts : List (Int × Int)) (rs : List (List Int)) (r : Rw) (most : Int), vs = [.ref q, .ref s, .int most] ∧ YdAt K H q n ts rs ∧ YP n ts rs ∧ n ≤ 5 ∧ H s = some (.tup (r.map V.int)) ∧ r.length = n ∧
  Dep (stepsV ts rs) r d ∧ 3125 ≤ most ∧ ∀ g kvs H', H g = none → H' g = some (.dT kvs) → KVs IntK kvs (dW (stepsV ts rs) r d) → Same H H' → Q (.ref g) H'
section
variable {P : Program} {w : World} {K : PySem.W.Frag} {mg : Str → Option Value} {base : Heap} {fDraw fMs fMd : Addr}
theorem scRe : FnScope NRe ["_law_yard", "_law_stand", "_law_most"] (defScope sRe) := ⟨rfl, rfl, rfl, by decide +kernel, rfl, by decide +kernel, by decide +kernel⟩
theorem ok_re {f : Addr} {fd fdM fdV : FuncData} (F : Fun K "_law_reached" "_law_reached" sRe f fd) (T : TG K mg fDraw) (gM : mg "_law_moves" = some (.ref fMs)) (gV : mg "_law_moved" = some (.ref fMd))
    (GM : FnOk P w K mg base CX0 1 fMs fdM ["_law_yard", "_law_stand"] (spMovesN K)) (FM : Fun K "_law_moves" "_law_moves" sMoves fMs fdM) (bM : Binds K fdM ["_law_yard", "_law_stand"] [])
    (GV : FnOk P w K mg base CX0 1 fMd fdV ["_law_yard", "_law_stand", "_law_move"] (spMoved K)) (FV : Fun K "_law_moved" "_law_moved" sMoved fMd fdV) (bV : Binds K fdV ["_law_yard", "_law_stand", "_law_move"] []) :
    FnOk P w K mg base CX0 2 f fd ["_law_yard", "_law_stand", "_law_most"] (spRe K) := by
  refine F.ok scRe (fun vs H Q E h => ?_) (fun cdv A outer s H vs Q E hr h => ?_)
  · obtain ⟨q, s, n, d, ts, rs, r, most, rfl, _⟩ := h
    rfl
  · obtain ⟨q, s, n, d, ts, rs, r, most, rfl, hy, yp, n5, hs, hl, dep, hmost, fin⟩ := h
    have hu := hu_of hr
    have hr1 : Room 1 _ := hr.mono (by decide)
    refine ⟨_, pss_cons (ps_par3 (i := 3) (j := 4) (l := 5) rfl scRe.nd rfl rfl rfl (by decide) (by decide) (by decide) rfl rfl rfl (pa_cons (pe_disp1T hu (pv 1) pe_int) (pa_cons (pe_lst (pa_cons (pv 1) pa_nil)) (pa_cons pe_int pa_nil))) (by rfl))
      (pss_cons (ps_for PassesOwn.never rfl (pi_range1 (by rfl) T.range (pa_cons pe_int pa_nil)) (pg_name (i := 6) scRe.nd rfl (Or.inl rfl))
        (pss_cons (ps_par (i := 5) (j := 7) rfl scRe.nd rfl rfl (by decide) rfl rfl (pa_cons (pe_op op_add (pv 5) pe_int) (pa_cons (pe_lst pa_nil) pa_nil)) (by rfl))
        (pss_cons (ps_for PassesOwn.never rfl (pi_list (pv 4)) (pg_name (i := 8) scRe.nd rfl (Or.inl rfl))
          (pss_one (ps_for PassesOwn.never rfl (pi_list (pe_call GM hr1 (by rfl) gM FM.kp bM .nil pass0 (pa_cons (pv 0) (pa_cons (pv 8) pa_nil)))) (pg_name (i := 9) scRe.nd rfl (Or.inl rfl))
            (pss_cons (ps_set (i := 10) scRe.nd rfl (Or.inl rfl) (pe_call GV hr1 (by rfl) gV FV.kp bV .nil pass0 (pa_cons (pv 0) (pa_cons (pv 8) (pa_cons (pv 9) pa_nil)))))
            (pss_one (ps_if (pt_cmp (pc_dnotin hu (pv 10) (pv 3)))
              (pss_cons (ps_dput hu (pv 3) (pv 10) (pv 5) rfl)
              (pss_one (ps_expr (pe_bm PySem.F.plainAttrs_list PySem.F.slot_list_append PySem.F.type_list_append mt_append (pv 7) (pa_cons (pv 10) pa_nil))))) pss_nil))))))
        (pss_cons (ps_if (pt_cmp (pc_gt (pe_callB call_lenT (by rfl) T.p.len PySem.boot_len (pa_cons (pv 3) pa_nil)) (pv 2))) (pss_one (ps_ret pe_non)) pss_nil)
        (pss_cons (ps_set (i := 4) scRe.nd rfl (Or.inl rfl) (pv 7))
        (pss_one (ps_if (pt_cmpR (op_eq_nil (Nat.lt_of_succ_lt hu)) (pv 4) (pe_lst pa_nil) (nomark _)) (pss_one ps_break) pss_nil)))))))
      (pss_one (ps_ret (pv 3)))), ?_⟩
    have keyr : ∀ {H : Hp} {b : Addr}, H b = some (.tup (r.map V.int)) → H b = some (.tup ((keyR r).map kV)) := fun h => by rw [keyR_kV]; exact h
    refine fun g ng => ⟨_, rfl, s, keyR r, rfl, keyr (Same.new (o := .dT []) ng _ _ hs), upd_same, ?_⟩
    have s1 : Same H (upd (upd H g (.dT [])) g (.dT [(keyR r, V.int 0)])) := Same.upd_new (Same.new ng) ng
    have eg1 : (upd (upd H g (.dT [])) g (.dT [(keyR r, V.int 0)])) g = some (.dT [(keyR r, V.int 0)]) := upd_same
    generalize upd (upd H g (.dT [])) g (.dT [(keyR r, V.int 0)]) = H1 at s1 eg1 ⊢
    refine ⟨_, rfl, (by show 1 ≤ sizeLine; decide), fun l nl => ⟨_, _, _, rfl, ?_⟩⟩
    have s2 := s1.trans (Same.new (o := .lst [V.ref s]) nl)
    have eg2 := Same.new (o := .lst [V.ref s]) nl _ _ eg1
    have el2 : (upd H1 l (.lst [V.ref s])) l = some (.lst [V.ref s]) := upd_same
    have nlH : H l = none := Same.none s1 nl
    generalize upd H1 l (.lst [V.ref s]) = H2 at s2 eg2 el2 ⊢
    refine sq_st (σ' := [some (.ref q), some (.ref s), some (.int most), some (.ref g), some (.ref l), some (.int 0), none, none, none, none, none]) rfl ?_
    refine ⟨100000, rfl, by omega, by omega, ?_⟩
    have hB := fun i => sn_len (r := r) yp hl n5 i
    have d25 : d + 1 ≤ 3125 := Nat.le_trans (Sn_grow d dep.ne) (hB d)
    refine for_range (lo := 0) (n := (100000 : Int).toNat) (fun i σ H' => ∃ (v6 v7 v8 v9 v10 : Option V) (lf : Addr) (fs : List V) (kvs : List (List Key × V)), σ = [some (.ref q), some (.ref s), some (.int most), some (.ref g), some (.ref lf), some (.int (i : Nat)), v6, v7, v8, v9, v10] ∧ i ≤ d ∧
        H' g = some (.dT kvs) ∧ KVs IntK kvs (dW (stepsV ts rs) r i) ∧ H' lf = some (.lst fs) ∧ Paired (RowV H') fs (Ly (stepsV ts rs) r i) ∧ Same H H')
      ⟨none, none, none, none, none, l, _, _, rfl, Nat.zero_le _, eg2, .cons ⟨rfl, rfl⟩ .nil, el2, .cons ⟨s, rfl, s2 _ _ hs⟩ .nil, s2⟩ ?_ ?_
    · rintro i σ H3 hi ⟨v6, v7, v8, v9, v10, lf, fs, kvs, rfl, id_, eg, hk, ef, pf, s3⟩
      refine gset_go (σ' := [some (.ref q), some (.ref s), some (.int most), some (.ref g), some (.ref lf), some (.int (i : Nat)), some (.int (0 + (i : Int))), v7, v8, v9, v10]) rfl ?_
      refine ⟨_, rfl, _, _, rfl, rfl, Nat.zero_le _, fun lr nlr => ⟨_, _, rfl, ?_⟩⟩
      refine sq_st (σ' := [some (.ref q), some (.ref s), some (.int most), some (.ref g), some (.ref lf), some (.int ((i : Int) + 1)), some (.int (0 + (i : Int))), some (.ref lr), v8, v9, v10]) rfl ?_
      have s4 := s3.trans (Same.new (o := .lst []) nlr)
      have eg4 := Same.new (o := .lst []) nlr _ _ eg
      have ef4 := Same.new (o := .lst []) nlr _ _ ef
      have er4 : (upd H3 lr (.lst [])) lr = some (.lst []) := upd_same
      have pf4 := par_map (fun v x (h : RowV H3 v x) => h.kp fun b xs e => Same.new (o := .lst []) nlr b _ e) pf
      have nlrH : H lr = none := Same.none s3 nlr
      have fr : lf ≠ lr := ne_of_none ef nlr
      have gr : g ≠ lr := ne_of_none eg nlr
      generalize upd H3 lr (.lst []) = H4 at s4 eg4 ef4 er4 pf4 ⊢
      have lfs : fs.length = (Ly (stepsV ts rs) r i).length := Paired.length pf
      refine ⟨_, rfl, lf, rfl, ⟨_, SqL.of ef4⟩, ?_⟩
      refine for_list (K := K) (a := lf) (xs := fs) (fun j σ H' => ∃ (v8 v9 v10 : Option V) (kvs : List (List Key × V)) (rr : List V), σ = [some (.ref q), some (.ref s), some (.int most), some (.ref g), some (.ref lf), some (.int ((i : Int) + 1)), some (.int (0 + (i : Int))), some (.ref lr), v8, v9, v10] ∧
          H' g = some (.dT kvs) ∧ KVs IntK kvs (dW (stepsV ts rs) r i ++ (fresh (Sn (stepsV ts rs) r i) (edges (stepsV ts rs) ((Ly (stepsV ts rs) r i).take j))).map fun x => (x, ((i + 1 : Nat) : Int))) ∧ H' lr = some (.lst rr) ∧ Paired (RowV H') rr (fresh (Sn (stepsV ts rs) r i) (edges (stepsV ts rs) ((Ly (stepsV ts rs) r i).take j))) ∧
          H' lf = some (.lst fs) ∧ KpT H4 H' ∧ Same H H')
        ⟨v8, v9, v10, kvs, [], rfl, eg4, by simpa [edges, fresh] using hk, er4, .nil, ef4, .of_same (Same.refl' _), s4⟩ (fun j σ H' _ ⟨_, _, _, _, _, _, _, _, _, _, e, _⟩ => SqL.of e) ?_ ?_
      · rintro j v σ H5 hv ⟨v8, v9, v10, kvs, rr, rfl, eg5, hk, er5, prr, ef5, k5, s5⟩
        obtain ⟨st, est, hst⟩ := par_get pf4 hv
        have pst := ly_perm yp hl i st (List.mem_of_getElem? est)
        have lst : st.length = n := by rw [pst.length_eq, hl]
        obtain ⟨sa, rfl, hsa4⟩ := hst
        have hsa := k5.tup hsa4
        refine gset_go (σ' := [some (.ref q), some (.ref s), some (.int most), some (.ref g), some (.ref lf), some (.int ((i : Int) + 1)), some (.int (0 + (i : Int))), some (.ref lr), some (.ref sa), v9, v10]) rfl ?_
        refine ⟨_, rfl, _, rfl, q, sa, n, ts, rs, st, rfl, hy.kp (.of_same s5), Nat.le_trans yp.tl (by decide), Nat.le_trans yp.rl (by decide), yp.tok, SqT.of hsa, lst, fun lm ms H6 nlm elm pms s6 => ⟨lm, rfl, ⟨_, SqL.of elm⟩, ?_⟩⟩
        have glm : g ≠ lm := ne_of_none eg5 nlm
        have rlm : lr ≠ lm := ne_of_none er5 nlm
        have flm : lf ≠ lm := ne_of_none ef5 nlm
        have lms : ms.length = (movesOf ts rs st).length := Paired.length pms
        refine for_list (K := K) (a := lm) (xs := ms) (fun m σ H' => ∃ (v9 v10 : Option V) (kvs : List (List Key × V)) (rr : List V), σ = [some (.ref q), some (.ref s), some (.int most), some (.ref g), some (.ref lf), some (.int ((i : Int) + 1)), some (.int (0 + (i : Int))), some (.ref lr), some (.ref sa), v9, v10] ∧
            H' g = some (.dT kvs) ∧ KVs IntK kvs (dW (stepsV ts rs) r i ++ (fresh (Sn (stepsV ts rs) r i) (edges (stepsV ts rs) ((Ly (stepsV ts rs) r i).take j) ++ ((movesOf ts rs st).take m).map fun mv => (st, mv, stepMv rs st mv))).map fun x => (x, ((i + 1 : Nat) : Int))) ∧ H' lr = some (.lst rr) ∧
            Paired (RowV H') rr (fresh (Sn (stepsV ts rs) r i) (edges (stepsV ts rs) ((Ly (stepsV ts rs) r i).take j) ++ ((movesOf ts rs st).take m).map fun mv => (st, mv, stepMv rs st mv))) ∧
            H' lf = some (.lst fs) ∧ KpT H6 H' ∧ Same H H' ∧ H' lm = some (.lst ms))
          ⟨v9, v10, kvs, rr, rfl, s6 _ _ eg5, by rw [List.take_zero, List.map_nil, List.append_nil]; exact hk, s6 _ _ er5, by rw [List.take_zero, List.map_nil, List.append_nil]; exact par_map (fun v x (h : RowV H5 v x) => h.kp fun b xs e => s6 b _ e) prr, s6 _ _ ef5, .of_same (Same.refl' _), s5.trans s6, elm⟩ (fun j σ H' _ ⟨_, _, _, _, _, _, _, _, _, _, _, _, e⟩ => SqL.of e) ?_ ?_
        · rintro m v σ H7 hv ⟨v9, v10, kvs, rr, rfl, eg7, hk, er7, prr, ef7, k67, s7, elm7⟩
          obtain ⟨mv, emv, hmv⟩ := par_get pms hv
          have c := can_of_mem (n := n) yp.tok (List.mem_of_getElem? emv)
          have eT : edges (stepsV ts rs) ((Ly (stepsV ts rs) r i).take j) ++ ((movesOf ts rs st).take (m + 1)).map (fun mv => (st, mv, stepMv rs st mv)) = (edges (stepsV ts rs) ((Ly (stepsV ts rs) r i).take j) ++ ((movesOf ts rs st).take m).map fun mv => (st, mv, stepMv rs st mv)) ++ [(st, mv, stepMv rs st mv)] := by
            rw [take_next emv, List.map_append, List.append_assoc]
            rfl
          rw [eT]
          have esm : ∀ u ∈ fresh (Sn (stepsV ts rs) r i) (edges (stepsV ts rs) ((Ly (stepsV ts rs) r i).take j) ++ ((movesOf ts rs st).take m).map fun mv => (st, mv, stepMv rs st mv)), u.Perm r := fun u hu => by
            obtain ⟨_, ed, hed, rfl⟩ := mem_fresh.mp hu
            rcases List.mem_append.mp hed with hed | hed
            · obtain ⟨h1, h2⟩ := mem_edges.mp hed
              have p1 := ly_perm yp hl i _ (List.mem_of_mem_take h1)
              exact (steps_perm yp (by rw [p1.length_eq, hl]) _ h2).trans p1
            · obtain ⟨mv', hmv', rfl⟩ := List.mem_map.mp hed
              exact (steps_perm yp lst (mv', stepMv rs st mv') (List.mem_map.mpr ⟨mv', List.mem_of_mem_take hmv', rfl⟩)).trans pst
          generalize edges (stepsV ts rs) ((Ly (stepsV ts rs) r i).take j) ++ ((movesOf ts rs st).take m).map (fun mv => (st, mv, stepMv rs st mv)) = es at hk prr esm ⊢
          have hsa7 := k67.tup (s6 _ _ hsa)
          refine gset_go (σ' := [some (.ref q), some (.ref s), some (.int most), some (.ref g), some (.ref lf), some (.int ((i : Int) + 1)), some (.int (0 + (i : Int))), some (.ref lr), some (.ref sa), some v, v10]) rfl ?_
          refine ⟨_, rfl, _, rfl, _, rfl, q, sa, v, n, ts, rs, st, mv, rfl, hy.kp (.of_same s7), by omega, yp.rok, SqT.of hsa7, lst, k67.mv hmv, c, fun t H8 et s8 => ?_⟩
          refine gset_go (σ' := [some (.ref q), some (.ref s), some (.int most), some (.ref g), some (.ref lf), some (.int ((i : Int) + 1)), some (.int (0 + (i : Int))), some (.ref lr), some (.ref sa), some v, some (.ref t)]) rfl ?_
          have eg8 := s8 _ _ eg7
          have er8 := s8 _ _ er7
          have ef8 := s8 _ _ ef7
          have elm8 := s8 _ _ elm7
          have k68 := k67.trans (.of_same s8)
          have s78 := s7.trans s8
          have prr8 := par_map (fun v x (h : RowV H7 v x) => h.kp fun b xs e => s8 b _ e) prr
          have ekey : H8 t = some (.tup ((keyR (stepMv rs st mv)).map kV)) := by rw [keyR_kV]; exact et
          have keys : (dW (stepsV ts rs) r i ++ (fresh (Sn (stepsV ts rs) r i) es).map fun x => (x, ((i + 1 : Nat) : Int))).map (·.1) = Sn (stepsV ts rs) r i ++ fresh (Sn (stepsV ts rs) r i) es := by
            rw [List.map_append, dW_keys, List.map_map]
            congr 1
            exact List.map_id _
          have ndk : (Sn (stepsV ts rs) r i ++ fresh (Sn (stepsV ts rs) r i) es).Nodup := List.nodup_append.mpr ⟨Sn_nodup i, fresh_nodup _ _, fun a ha b hb z => (mem_fresh.mp hb).1 (by rw [← z]; exact ha)⟩
          have lkv : kvs.length ≤ 6250 := by
            rw [hk.len, List.length_append, List.length_map, ← List.length_map (f := (·.1)) (as := dW (stepsV ts rs) r i), dW_keys]
            have h1 := hB i
            have h2 := perms_len (r := r) (by omega) (fresh_nodup (Sn (stepsV ts rs) r i) es) esm
            omega
          refine ⟨_, rfl, _, rfl, g, _, rfl, DGet.t eg8 ekey, _, rfl, ?_⟩
          have sIff := hk.some_iff (r := stepMv rs st mv) (by rw [keys]; exact ndk)
          rw [keys] at sIff
          by_cases cin : stepMv rs st mv ∈ Sn (stepsV ts rs) r i ++ fresh (Sn (stepsV ts rs) r i) es
          · refine iteF' (by rw [sIff, decide_eq_true cin]; rfl) ?_
            have e1 : fresh (Sn (stepsV ts rs) r i) (es ++ [(st, mv, stepMv rs st mv)]) = fresh (Sn (stepsV ts rs) r i) es := by
              rw [fresh_snoc]
              unfold addF
              rcases List.mem_append.mp cin with h | h
              · rw [if_pos h]
              · by_cases h2 : stepMv rs st mv ∈ Sn (stepsV ts rs) r i
                · rw [if_pos h2]
                · rw [if_neg h2, if_pos h]
            rw [e1]
            exact ⟨_, _, kvs, rr, rfl, eg8, hk, er8, prr8, ef8, k68, s78, elm8⟩
          · refine iteT' (by rw [sIff, decide_eq_false cin]; rfl) ?_
            have e1 : fresh (Sn (stepsV ts rs) r i) (es ++ [(st, mv, stepMv rs st mv)]) = fresh (Sn (stepsV ts rs) r i) es ++ [stepMv rs st mv] := by
              rw [fresh_snoc]
              unfold addF
              rw [if_neg fun h => cin (List.mem_append_left _ h), if_neg fun h => cin (List.mem_append_right _ h)]
            rw [e1]
            refine ⟨_, rfl, _, rfl, _, rfl, g, _, rfl, DPut.t eg8 ekey (Nat.lt_of_le_of_lt lkv (by decide)), ?_⟩
            have kd := KpT.dt (o := .dT (putK kvs (keyR (stepMv rs st mv)) (.int ((i : Int) + 1)))) eg8
            have er9 : (upd H8 g (.dT (putK kvs (keyR (stepMv rs st mv)) (.int ((i : Int) + 1))))) lr = some (.lst rr) := by rw [upd_ne (Ne.symm gr)]; exact er8
            have lrr : rr.length ≤ 3125 := by
              rw [Paired.length prr]
              exact perms_len (r := r) (by omega) (fresh_nodup (Sn (stepsV ts rs) r i) es) esm
            refine ⟨_, rfl, .inl ⟨rfl, _, SqL.of er9⟩, _, rfl, lr, _, _, rfl, rfl, er9, Nat.lt_of_le_of_lt lrr (by decide), ?_⟩
            have kl := KpT.lst (o := .lst (rr ++ [V.ref t])) er9
            have k89 := kd.trans kl
            refine ⟨_, _, _, _, rfl, by rw [upd_ne gr]; exact upd_same, ?_, upd_same, par_snoc (par_map (fun v x h => k89.row h) prr8) (k89.row ⟨t, rfl, et⟩), by rw [upd_ne fr, upd_ne (ne_of ef8 eg8 (by intro z; cases z))]; exact ef8, k68.trans k89, Same.upd_new (Same.upd_new s78 ng) nlrH, by rw [upd_ne (Ne.symm rlm), upd_ne (Ne.symm glm)]; exact elm8⟩
            rw [List.map_append, ← List.append_assoc]
            exact hk.snoc (by rw [keys]; exact cin) rfl
        · rintro σ H7 ⟨v9, v10, kvs, rr, rfl, eg7, hk, er7, prr, ef7, k67, s7, _⟩
          rw [lms, List.take_length] at hk prr
          have eE : edges (stepsV ts rs) ((Ly (stepsV ts rs) r i).take (j + 1)) = edges (stepsV ts rs) ((Ly (stepsV ts rs) r i).take j) ++ (movesOf ts rs st).map fun mv => (st, mv, stepMv rs st mv) := by
            rw [take_next est, edges_snoc]
            congr 1
            unfold edgesR stepsV
            rw [List.map_map]
            rfl
          exact ⟨_, _, _, kvs, rr, rfl, eg7, by rw [eE]; exact hk, er7, by rw [eE]; exact prr, ef7, (k5.trans (.of_same s6)).trans k67, s7⟩
      · rintro σ H5 ⟨v8, v9, v10, kvs, rr, rfl, eg5, hk, er5, prr, ef5, k5, s5⟩
        rw [lfs, List.take_length] at hk prr
        change KVs IntK kvs (dW (stepsV ts rs) r (i + 1)) at hk
        change Paired (RowV H5) rr (Ly (stepsV ts rs) r (i + 1)) at prr
        have lkv : kvs.length = (Sn (stepsV ts rs) r (i + 1)).length := by rw [hk.len, ← dW_keys, List.length_map]
        refine ⟨_, rfl, g, kvs, rfl, eg5, _, rfl, _, _, rfl, rfl, _, rfl, ?_⟩
        refine iteF' (decide_eq_false (by have := hB (i + 1); omega)) ?_
        refine ⟨_, rfl, ?_⟩
        refine gset_go (σ' := [some (.ref q), some (.ref s), some (.int most), some (.ref g), some (.ref lr), some (.int ((i : Int) + 1)), some (.int (0 + (i : Int))), some (.ref lr), v8, v9, v10]) rfl ?_
        refine ⟨_, rfl, Nat.zero_le _, fun le nle => ⟨lr, le, rr, rfl, rfl, SqL.of (Same.new nle _ _ er5), SqL.of upd_same, _, rfl, ?_⟩⟩
        have se := Same.new (o := .lst []) nle
        by_cases cE : rr = []
        · subst cE
          refine iteT' rfl ?_
          have hnil : Ly (stepsV ts rs) r (i + 1) = [] := List.length_eq_zero_iff.mp (Paired.length prr).symm
          have : i = d := by
            rcases Nat.lt_or_ge i d with h | h
            · exact absurd hnil (dep.ne (i + 1) (by omega))
            · omega
          subst this
          refine ⟨_, rfl, fin g kvs _ ng (se _ _ eg5) ?_ (s5.trans se)⟩
          have e : dW (stepsV ts rs) r (i + 1) = dW (stepsV ts rs) r i := by
            show dW (stepsV ts rs) r i ++ (Ly (stepsV ts rs) r (i + 1)).map _ = _
            rw [hnil, List.map_nil, List.append_nil]
          rw [← e]
          exact hk
        · refine iteF' (by cases rr; exact absurd rfl cE; rfl) ?_
          have hne : Ly (stepsV ts rs) r (i + 1) ≠ [] := fun z => by rw [z] at prr; cases prr; exact cE rfl
          have : i + 1 ≤ d := by
            rcases Nat.lt_or_ge i d with h | h
            · exact h
            · have : i = d := by omega
              subst this
              exact absurd dep.nil hne
          exact ⟨_, _, _, _, _, lr, rr, kvs, rfl, this, se _ _ eg5, hk, se _ _ er5, par_map (fun v x h => h.kp fun b xs e => se b _ e) prr, s5.trans se⟩
    · rintro σ H3 ⟨v6, v7, v8, v9, v10, lf, fs, kvs, rfl, id_, _⟩
      have : (100000 : Int).toNat = 100000 := rfl
      omega
end
end Y
set_option Elab.async false
set_option linter.all false
set_option maxRecDepth 100000
set_option maxHeartbeats 4000000
namespace Y
open PySem L2
/-! ### _law_layers -/
abbrev sLl : Stmt := top 999
abbrev NLl : List Str := ["_law_yard", "_law_stand", "_law_reached_here", "_law_found", "_law_k", "_law_one", "_law_layer"]
theorem cr_sortRlK {X : Cx} {K : PySem.W.Frag} (e : X.K = K) : CallR X (.builtin "sorted") (rSortRl K) := by
  subst e
  exact cr_sortRl
section
variable {S : StF} {r : Rw}
theorem dW_of : ∀ {k : Nat} {p : Rw × Int}, p ∈ dW S r k → ∃ i, i ≤ k ∧ p.1 ∈ Ly S r i ∧ p.2 = (i : Nat)
  | 0, p, h => by
    rw [List.mem_singleton.mp h]
    exact ⟨0, Nat.le_refl 0, List.mem_singleton.mpr rfl, rfl⟩
  | k + 1, p, h => by
    rcases List.mem_append.mp (show p ∈ dW S r k ++ _ from h) with h | h
    · obtain ⟨i, h1, h2, h3⟩ := dW_of h
      exact ⟨i, by omega, h2, h3⟩
    · obtain ⟨x, hx, rfl⟩ := List.mem_map.mp h
      exact ⟨k + 1, Nat.le_refl _, hx, rfl⟩
theorem dW_mem {i : Nat} {x : Rw} (hx : x ∈ Ly S r i) : ∀ {k : Nat}, i ≤ k → (x, ((i : Nat) : Int)) ∈ dW S r k := fun {k} => by
  induction k with
  | zero =>
    intro h
    obtain rfl : i = 0 := by omega
    rw [List.mem_singleton.mp hx]
    exact List.mem_singleton.mpr rfl
  | succ k ih =>
    intro h
    show _ ∈ dW S r k ++ _
    rcases Nat.lt_or_ge k i with h1 | h1
    · obtain rfl : i = k + 1 := by omega
      exact List.mem_append_right _ (List.mem_map.mpr ⟨x, hx, rfl⟩)
    · exact List.mem_append_left _ (ih h1)
/-- those at the distance i, in their order -/
def atD (i : Nat) (W : List (Rw × Int)) : List Rw := (W.filter fun p => decide (p.2 = ((i : Nat) : Int))).map (·.1)
theorem atD_snoc (i : Nat) (W : List (Rw × Int)) (p : Rw × Int) : atD i (W ++ [p]) = if p.2 = ((i : Nat) : Int) then atD i W ++ [p.1] else atD i W := by
  unfold atD
  rw [List.filter_append, List.map_append]
  by_cases h : p.2 = ((i : Nat) : Int)
  · rw [if_pos h, List.filter_cons_of_pos (by rw [decide_eq_true h])]
    rfl
  · rw [if_neg h, List.filter_cons_of_neg (by rw [decide_eq_false h]; exact Bool.false_ne_true)]
    simp
theorem atD_none {i k : Nat} (h : k < i) : atD i (dW S r k) = [] := by
  unfold atD
  rw [List.filter_eq_nil_iff.mpr fun p hp => ?_]
  · rfl
  · obtain ⟨j, h1, _, h3⟩ := dW_of hp
    rw [decide_eq_true_iff, h3]
    omega
theorem atD_dW {i : Nat} : ∀ {k : Nat}, i ≤ k → atD i (dW S r k) = Ly S r i
  | 0, h => by
    obtain rfl : i = 0 := by omega
    rfl
  | k + 1, h => by
    have split : atD i (dW S r (k + 1)) = atD i (dW S r k) ++ atD i ((Ly S r (k + 1)).map fun x => (x, ((k + 1 : Nat) : Int))) := by
      show atD i (dW S r k ++ _) = _
      unfold atD
      rw [List.filter_append, List.map_append]
    rw [split]
    rcases Nat.lt_or_ge k i with h1 | h1
    · obtain rfl : i = k + 1 := by omega
      rw [atD_none h1]
      unfold atD
      rw [List.filter_eq_self.mpr fun p hp => ?_]
      · rw [List.map_map]
        exact List.map_id _
      · obtain ⟨x, _, rfl⟩ := List.mem_map.mp hp
        exact decide_eq_true rfl
    · rw [atD_dW h1]
      have : atD i ((Ly S r (k + 1)).map fun x => (x, ((k + 1 : Nat) : Int))) = [] := by
        unfold atD
        rw [List.filter_eq_nil_iff.mpr fun p hp => ?_]
        · rfl
        · obtain ⟨x, _, rfl⟩ := List.mem_map.mp hp
          rw [decide_eq_true_iff]
          show ¬ ((k + 1 : Nat) : Int) = _
          omega
      rw [this, List.append_nil]
end
theorem cpow6 : CPow 10 6 := ⟨by decide, by decide, by decide⟩
def spLl (K : PySem.W.Frag) : Sp := fun vs H Q _ => ∃ (q s : Addr) (n d : Nat) (ts : List (Int × Int)) (rs : List (List Int)) (r : Rw), vs = [.ref q, .ref s] ∧ YdAt K H q n ts rs ∧ YP n ts rs ∧ n ≤ 5 ∧ H s = some (.tup (r.map V.int)) ∧ r.length = n ∧
  Dep (stepsV ts rs) r d ∧ ∀ v Ms H', LayersV H' v Ms → Paired SortedOf Ms ((List.range (d + 1)).map (Ly (stepsV ts rs) r)) → Same H H' → Q v H'
section
variable {P : Program} {w : World} {K : PySem.W.Frag} {mg : Str → Option Value} {base : Heap} {fDraw fRe : Addr}
end
end Y
set_option Elab.async false
set_option linter.all false
set_option maxRecDepth 100000
set_option maxHeartbeats 4000000
namespace Y
open PySem L2
/-! ### _law_counts -/
abbrev sLk : Stmt := top 999
abbrev NLk : List Str := ["_law_yard", "_law_reached_here", "_law_stand", "_law_counts_here", "_law_k", "_law_one", "_law_move", "_law_there"]
def Pn (S : StF) (r : Rw) : Nat → Nat
  | 0 => 0
  | k + 1 => (Sn S r k).length
theorem Pn_succ {S : StF} {r : Rw} (k : Nat) : Pn S r (k + 1) = Pn S r k + (Ly S r k).length := by
  cases k with
  | zero => rfl
  | succ k => show (Sn S r (k + 1)).length = _; rw [Sn_succ, List.length_append]; rfl
/-- the counts of all stands up to the layer k -/
structure CntOk (S : StF) (r : Rw) (k : Nat) (kvs : List (List Key × V)) : Prop where
  at_ : ∀ i x, i ≤ k → x ∈ Ly S r i → valV kvs (keyR x) = some (.int (cnt S r i x))
  off : ∀ x, x ∉ Sn S r k → valV kvs (keyR x) = none
/-- while the layer k is walked over: es the edges done -/
structure CntMid (S : StF) (r : Rw) (k : Nat) (es : List Ed) (kvs : List (List Key × V)) : Prop where
  at_ : ∀ i x, i ≤ k → x ∈ Ly S r i → valV kvs (keyR x) = some (.int (cnt S r i x))
  mid : ∀ x, x ∈ Ly S r (k + 1) → valV kvs (keyR x) = if into es x = [] then none else some (.int (((into es x).map fun p => cnt S r k p.1).sum))
  off : ∀ x, x ∉ Sn S r (k + 1) → valV kvs (keyR x) = none
section
variable {S : StF} {r : Rw} {k : Nat} {kvs : List (List Key × V)}
theorem CntOk.mid (h : CntOk S r k kvs) : CntMid S r k [] kvs := ⟨h.at_, fun x hx => by
    rw [show into ([] : List Ed) x = [] from rfl, if_pos rfl]
    exact h.off x (mem_fresh.mp hx).1, fun x hx => h.off x fun z => hx (Sn_mono (Nat.le_succ k) _ z)⟩
theorem CntMid.ok (h : CntMid S r k (edges S (Ly S r k)) kvs) : CntOk S r (k + 1) kvs := ⟨fun i x hi hx => by
    rcases Nat.lt_or_ge k i with h1 | h1
    · obtain rfl : i = k + 1 := by omega
      have hne : into (edges S (Ly S r k)) x ≠ [] := by
        obtain ⟨_, e, he, rfl⟩ := mem_fresh.mp hx
        intro z
        have : (e.1, e.2.1) ∈ into (edges S (Ly S r k)) e.2.2 := by
          unfold into
          exact List.mem_map.mpr ⟨e, List.mem_filter.mpr ⟨he, decide_eq_true rfl⟩, rfl⟩
        rw [z] at this
        cases this
      rw [h.mid x hx, if_neg hne]
      rfl
    · exact h.at_ i x h1 hx, h.off⟩
theorem CntMid.skip {es : List Ed} {e : Ed} (h : CntMid S r k es kvs) (hn : e.2.2 ∉ Ly S r (k + 1)) : CntMid S r k (es ++ [e]) kvs := ⟨h.at_, fun x hx => by
    rw [into_snoc, if_neg (show ¬ e.2.2 = x from fun z => hn (by rw [z]; exact hx))]
    exact h.mid x hx, h.off⟩
theorem CntMid.add {es : List Ed} {e : Ed} (h : CntMid S r k es kvs) (hx : e.2.2 ∈ Ly S r (k + 1)) :
    CntMid S r k (es ++ [e]) (putK kvs (keyR e.2.2) (.int (((into es e.2.2).map fun p => cnt S r k p.1).sum + cnt S r k e.1))) := by
  have ne : ∀ {x : Rw}, x ≠ e.2.2 → valV (putK kvs (keyR e.2.2) (.int (((into es e.2.2).map fun p => cnt S r k p.1).sum + cnt S r k e.1))) (keyR x) = valV kvs (keyR x) := fun hn => by
    rw [valV_put, if_neg fun z => hn (keyR_inj z)]
  refine ⟨fun i x hi hx' => ?_, fun x hx' => ?_, fun x hx' => ?_⟩
  · rw [ne (fun z => by rw [z] at hx'; have := Ly_one hx' hx; omega)]
    exact h.at_ i x hi hx'
  · by_cases c : x = e.2.2
    · subst c
      rw [valV_put, if_pos rfl, into_snoc, if_pos rfl, if_neg (by simp), List.map_append, List.sum_append]
      simp
    · rw [ne c, into_snoc, if_neg (Ne.symm c)]
      exact h.mid x hx'
  · rw [ne (fun z => hx' (by rw [z]; exact Ly_sub _ _ hx))]
    exact h.off x hx'
theorem CntMid.get {es : List Ed} (h : CntMid S r k es kvs) {x : Rw} (hx : x ∈ Ly S r (k + 1)) : (valV kvs (keyR x)).getD (.int 0) = .int (((into es x).map fun p => cnt S r k p.1).sum) := by
  rw [h.mid x hx]
  by_cases c : into es x = []
  · rw [if_pos c, c]
    rfl
  · rw [if_neg c]
    rfl
end
def spLk (K : PySem.W.Frag) : Sp := fun vs H Q _ => ∃ (q g s : Addr) (n d : Nat) (ts : List (Int × Int)) (rs : List (List Int)) (r : Rw) (kvr : List (List Key × V)), vs = [.ref q, .ref g, .ref s] ∧ YdAt K H q n ts rs ∧ YP n ts rs ∧ n ≤ 5 ∧ H s = some (.tup (r.map V.int)) ∧ r.length = n ∧
  Dep (stepsV ts rs) r d ∧ H g = some (.dT kvr) ∧ KVs IntK kvr (dW (stepsV ts rs) r d) ∧ ∀ c kvs H', H c = none → H' c = some (.dT kvs) → CntOk (stepsV ts rs) r d kvs → Same H H' → Q (.ref c) H'
section
variable {P : Program} {w : World} {K : PySem.W.Frag} {mg : Str → Option Value} {base : Heap} {fDraw fMs fMd : Addr}
end
end Y
set_option Elab.async false
set_option linter.all false
set_option maxRecDepth 100000
set_option maxHeartbeats 4000000
namespace Y
open PySem PySem.Spec PyProof.Rows L2 LamX
/-! ### _law_fault -/
abbrev sFa : Stmt := top 48
abbrev NFa : List Str := ["_law_call", "_law_told", "error"]
structure TFa (K : PySem.W.Frag) (mg : Str → Option Value) (CU CM CN : Addr) : Prop where
  repr_ : mg "repr" = none
  gU : mg "Unlike" = some (.ref CU)
  gM : mg "TooMany" = some (.ref CM)
  gN : mg "BadNumber" = some (.ref CN)
  xU : XfC K CU
  xM : XfC K CM
  xN : XfC K CN
  nU : PySem.W.findIn K (.ref CU) "what" = some none
  nM : PySem.W.findIn K (.ref CM) "most" = some none
  nN : PySem.W.findIn K (.ref CN) "what" = some none
  nN2 : PySem.W.findIn K (.ref CN) "number" = some none
  mU : PySem.W.exmOne K (.ref CM) (.ref CU) = some false
  mM : PySem.W.exmOne K (.ref CM) (.ref CM) = some true
/-- what the lambda's call comes to: a TooMany, its field a small number -/
def TTm (CM : Addr) : (XK → Hp → VK → Prop) → Hp → VK → Prop := fun tl H Q => ∀ H1, Same H H1 → ∀ R : VK,
  tl (fun cls d H' => cls = .ref CM ∧ ∃ dd i, d = some dd ∧ H' dd = some (.xd [("most", .int i)]) ∧ i.natAbs.log2 < 1920 ∧ ∀ t, H' t = none → Q (.ref t) (upd H' t (.tup [.str "many", .str (toString i)]))) H1 R
abbrev rReprI : List V → Hp → VK → Prop := fun xs H Q => ∃ i : Int, xs = [.int i] ∧ i.natAbs.log2 < 1920 ∧ Q (.str (toString i)) H
def tFaU (C : Addr) : Addr → Value → Option Addr → TS := fun a cls d => tAsg (tTup (tCons (tC (.str "unlike")) (tCons (tXf a cls d C "what" (tVar 2)) tNil))) (gName 1)
def tFaM (C : Addr) : Addr → Value → Option Addr → TS := fun a cls d => tAsg (tTup (tCons (tC (.str "many")) (tCons (tCB rReprI (tCons (tXf a cls d C "most" (tVar 2)) tNil)) tNil))) (gName 1)
def tFaN (C : Addr) : Addr → Value → Option Addr → TS := fun a cls d => tAsg (tTup (tCons (tC (.str "number")) (tCons (tXf a cls d C "what" (tVar 2)) (tCons (tCB rReprI (tCons (tXf a cls d C "number" (tVar 2)) tNil)) tNil)))) (gName 1)
theorem takes_len {X : Cx} {W : WX} (tk : Takes X W) : Takes X (fun cls d σ H => σ.length = X.N.length → W cls d σ H) := fun u s' x => by
  obtain ⟨a, B, sI, pins', σ', H', cls, d, e, J, r1, r2, r3, r4, r5, r6, w⟩ := x
  exact tk u s' ⟨a, B, sI, pins', σ', H', cls, d, e, J, r1, r2, r3, r4, r5, r6, w J.len⟩
section
variable {P : Program} {w : World} {K : PySem.W.Frag} {mg : Str → Option Value} {base : Heap} {CU CM CN : Addr}
theorem scFa : FnScope NFa ["_law_call"] (defScope sFa) := ⟨rfl, rfl, rfl, by decide +kernel, rfl, by decide +kernel, by decide +kernel⟩
theorem fault_gives {X : Cx} {q : Str} {g : Addr} {cdg : Value} (T : TFa X.K X.mg CU CM CN) : GivesTo X NFa "_law_fault" (defScope sFa) g cdg (defBody sFa) "_law_call" q (TTm CM) := by
  intro f c' s H Q tl act hc h
  refine ⟨_, pss_cons (ps_set (i := 1) scFa.nd rfl (Or.inl rfl) (pe_tup (pa_cons pe_str pa_nil))) (pss_cons (ps_try_each (X := (cxOf C8.CX0 X.prog X.w X.K X.mg X.base NFa "_law_fault" (defScope sFa) g cdg X.A X.stack s H C8.E0).nox) (i := 2) (n := "error") (Wout := fun _ _ _ _ => False)
      (l := [(.ref CU, tFaU CU), (.ref CM, tFaM CM), (.ref CN, tFaN CN)])
      (tb := fun W D σ H => ∃ Ech : XK, (∀ cls d σ' H', σ'.length = 3 → Ech cls d H' → W cls d σ' H') ∧ σ[0]? = some (some (.ref f)) ∧ H c' = some (CodeO c' q) ∧ tl Ech H (fun _ H' => D.nx σ H'))
      rfl rfl scFa.nd rfl rfl L2.takes0 (fun W pn xe tk _ => ?body)
      (.cons ⟨rfl, by decide, Or.inl T.gU⟩ (fun a oe cls d pn hz hf => pss_one (ps_set (i := 1) scFa.nd rfl (Or.inl rfl) (pe_tup (pa_cons pe_str (pa_cons (by exact pe_xf T.xU T.nU hz hf (pv 2)) pa_nil)))))
      (.cons ⟨rfl, by decide, Or.inl T.gM⟩ (fun a oe cls d pn hz hf => pss_one (ps_set (i := 1) scFa.nd rfl (Or.inl rfl) (pe_tup (pa_cons pe_str (pa_cons (pe_callB SkE.call_repr_int (by rfl) T.repr_ (by decide +kernel) (pa_cons (by exact pe_xf T.xM T.nM hz hf (pv 2)) pa_nil)) pa_nil)))))
      (.cons ⟨rfl, by decide, Or.inl T.gN⟩ (fun a oe cls d pn hz hf => pss_one (ps_set (i := 1) scFa.nd rfl (Or.inl rfl) (pe_tup (pa_cons pe_str (pa_cons (by exact pe_xf T.xN T.nN hz hf (pv 2)) (pa_cons (pe_callB SkE.call_repr_int (by rfl) T.repr_ (by decide +kernel) (pa_cons (by exact pe_xf T.xN T.nN2 hz hf (pv 2)) pa_nil)) pa_nil)))))) .nil))))
    (pss_one (ps_ret (pv 1)))), ?_⟩
  case body =>
    refine ⟨fun pins s' σ H' D I h' => ?_⟩
    obtain ⟨Ech, hW, h1, h2, h3⟩ := h'
    exact (pss_one (ps_expr (act _ pn xe Ech _ _ (takes_len tk) (fun cls d σ' H' e l => hW cls d σ' H' l e)))).run pins s' σ H' D I ⟨h1, h2, h3⟩
  · refine ⟨(by show 1 ≤ sizeLine; decide), fun t0 nt0 => ?_⟩
    refine gset_go (σ' := [some (.ref f), some (.ref t0), none]) rfl ?_
    have s0 := Same.new (o := .tup [.str "none"]) nt0
    refine ⟨fun cls d H' => cls = .ref CM ∧ ∃ dd i, d = some dd ∧ H' dd = some (.xd [("most", .int i)]) ∧ i.natAbs.log2 < 1920 ∧ ∀ t, H' t = none → Q (.ref t) (upd H' t (.tup [.str "many", .str (toString i)])), ?_, rfl, s0 _ _ hc, h _ s0 _⟩
    rintro cls d σ' H' lσ ⟨rfl, dd, i, rfl, e, hi, k⟩
    refine ⟨false, T.mU, fun z => Bool.noConfusion z, fun _ => ⟨true, T.mM, fun _ a ha => ?_, fun z => Bool.noConfusion z⟩⟩
    match σ', lσ with
    | [v0, v1, v2], _ =>
      refine ⟨_, rfl, rfl, rfl, dd, _, _, rfl, e, rfl, i, rfl, hi, (by show 2 ≤ sizeLine; decide), fun t nt => ?_⟩
      refine gset_go rfl ?_
      exact ⟨_, rfl, k t nt⟩
end
end Y
set_option Elab.async false
set_option linter.all false
set_option maxRecDepth 100000
set_option maxHeartbeats 4000000
namespace Y
open PySem L2
/-! ### _law_made_yard, _law_renamed, _law_small_yard -/
abbrev sMk2 : Stmt := top 49
abbrev sRn : Stmt := top 51
abbrev sSm : Stmt := top 52
abbrev NRn : List Str := ["_law_pen_here", "_law_stand", "_law_names", "_law_free", "_law_thing"]
theorem er_map : ∀ {l : List Int} {j : Nat}, (l.map V.int).eraseIdx j = (l.eraseIdx j).map V.int
  | [], _ => rfl
  | _ :: _, 0 => rfl
  | a :: l, j + 1 => by
    show V.int a :: (l.map V.int).eraseIdx j = V.int a :: (l.eraseIdx j).map V.int
    rw [er_map]
def spMk2 (K : PySem.W.Frag) (C : Addr) : Sp := fun vs H Q _ => ∃ (q : Addr) (n : Nat) (ts : List (Int × Int)) (rs : List (List Int)), vs = [.ref q] ∧ YdAt K H q n ts rs ∧ YdOk n ts rs ∧ ∀ x H', YObjC K H' C x n ts rs → Same H H' → Q (.ref x) H'
def spRn (K : PySem.W.Frag) : Sp := fun vs H Q _ => ∃ (p c s : Addr) (st : List Int) (b : Nat), vs = [.ref p, .ref s] ∧ Pen H p c (b + st.length) ∧ H s = some (.tup (st.map V.int)) ∧ st.length ≤ 12 ∧
  ∀ t (st' : List Int) H', H' t = some (.tup (st'.map V.int)) → st'.length = st.length → (∀ z ∈ st', 0 ≤ z ∧ z ≤ 100) → Kp H H' → Pen H' p c b → Q (.ref t) H'
def spSm (K : PySem.W.Frag) : Sp := fun vs H Q _ => ∃ (p c : Addr) (b : Nat), vs = [.ref p] ∧ Pen H p c (b + 130) ∧
  ∀ t q s n ts rs (st : List Int) H', H' t = some (.tup [.ref q, .ref s]) → YdAt K H' q n ts rs → YdOk n ts rs → n ≤ 5 → H' s = some (.tup (st.map V.int)) → st.length = n → (∀ z ∈ st, 0 ≤ z ∧ z ≤ 100) → Kp H H' → Pen H' p c b → Q (.ref t) H'
section
variable {P : Program} {w : World} {K : PySem.W.Frag} {mg : Str → Option Value} {base : Heap} {fDraw fInt fRow fUn fCnt fCT fCR fDY fDS fRn : Addr}
theorem scMk2 : FnScope ["_law_yard"] ["_law_yard"] (defScope sMk2) := ⟨rfl, rfl, rfl, by decide +kernel, rfl, by decide +kernel, by decide +kernel⟩
theorem ok_mk2 {f C fI : Addr} {fd fdI : FuncData} (F : Fun K "_law_made_yard" "_law_made_yard" sMk2 f fd) (T : TYd K mg C fInt fRow fUn fCnt fCT fCR) (M : Mk K C fI)
    (GY : FnOk P w K mg base CX0 5 fI fdI ["self", "places", "ties", "rings"] (spYInit K)) (bY : Binds K fdI ["self", "places", "ties", "rings"] []) :
    FnOk P w K mg base CX0 7 f fd ["_law_yard"] (spMk2 K C) := by
  refine F.ok scMk2 (fun vs H Q E h => ?_) (fun cdv A outer s H vs Q E hr h => ?_)
  · obtain ⟨q, n, ts, rs, rfl, _⟩ := h
    rfl
  · obtain ⟨q, n, ts, rs, rfl, ⟨a, e, ys, zs, hq, ha, pa, he, pe⟩, ⟨n1, n12, tok, tl, rok, rl⟩, k⟩ := h
    refine ⟨_, pss_one (ps_ret (pe_make M GY hr (by rfl) T.gYard bY .nil pass0 (pa_cons (pe_ix ix_tup (pv 0) pe_int (fun _ _ => rfl)) (pa_cons (pe_ix ix_tup (pv 0) pe_int (fun _ _ => rfl)) (pa_cons (pe_ix ix_tup (pv 0) pe_int (fun _ _ => rfl)) pa_nil))))), ?_⟩
    refine ⟨_, rfl, q, _, 0, _, rfl, rfl, hq, atI_nat (j := 0) rfl, ?_⟩
    refine ⟨_, rfl, q, _, 1, _, rfl, rfl, hq, atI_nat (j := 1) rfl, ?_⟩
    refine ⟨_, rfl, q, _, 2, _, rfl, rfl, hq, atI_nat (j := 2) rfl, ?_⟩
    intro x dx nx ndx ne
    have sm : Same H (upd (upd H dx (.own x)) x (.ins C dx [])) := (Same.new ndx).trans (Same.new (by rw [upd_ne (Ne.symm ne)]; exact nx))
    have pt : Paired (RowAt K (upd (upd H dx (.own x)) x (.ins C dx []))) ys (ts.map row2) := par_map (fun v r (h : TupI K H v r) => let ⟨b, e, h⟩ := h; ⟨b, e, .inr (Same.seqT sm h)⟩) (par_rows pa)
    have pr : Paired (RowAt K (upd (upd H dx (.own x)) x (.ins C dx []))) zs rs := par_map (fun v r h => let ⟨b, e, h⟩ := h; ⟨b, e, .inr (Same.seqT sm h)⟩) pe
    refine ⟨x, C, dx, a, e, n, ys, zs, ts, ts, rs, rfl, T.cls, upd_same, n1, by omega, .inr (Same.seqT sm ha), pt, .refl _, tok, tl, .inr (Same.seqT sm he), pr, rok, by omega, fun H5 yo keep => ⟨rfl, ?_⟩⟩
    exact k x H5 yo fun b' o e' => keep b' o (ne_of_none e' nx) (sm b' o e')
theorem scRn : FnScope NRn ["_law_pen_here", "_law_stand"] (defScope sRn) := ⟨rfl, rfl, rfl, by decide +kernel, rfl, by decide +kernel, by decide +kernel⟩
theorem ok_rn {f : Addr} {fd fdD : FuncData} (F : Fun K "_law_renamed" "_law_renamed" sRn f fd) (T : TG K mg fDraw) (FD : Fun K "_law_draw" "_law_draw" sDraw fDraw fdD) (bD : Binds K fdD ["_law_pen_here", "_law_many"] []) :
    FnOk P w K mg base CX0 2 f fd ["_law_pen_here", "_law_stand"] (spRn K) := by
  have GD : FnOk P w K mg base CX0 1 fDraw fdD ["_law_pen_here", "_law_many"] spDraw := ok_draw FD T.p
  refine F.ok scRn (fun vs H Q E h => ?_) (fun cdv A outer s H vs Q E hr h => ?_)
  · obtain ⟨p, c, s, st, b, rfl, _⟩ := h
    rfl
  · obtain ⟨p, c, s, st, b, rfl, hP, hs, l12, k⟩ := h
    have hu := hu_of hr
    refine ⟨_, pss_cons (ps_asg (pe_tup (pa_cons (pe_disp (pps_cons pe_int pe_int pps_nil) rfl rfl (by simp) (by decide)) (pa_cons (pe_listRg rfl (by rfl) T.p.list (prg_2 (by rfl) T.range pe_int pe_int)) pa_nil)))
        (pgT (K := K) (n := 2) rfl rfl (pgs_cons (pg_name (i := 2) scRn.nd rfl (Or.inr rfl)) (pgs_cons (pg_name (i := 3) scRn.nd rfl (Or.inl rfl)) pgs_nil)) rfl rfl))
      (pss_cons (ps_for PassesOwn.never rfl (pi_tup (pv 1)) (pg_name (i := 4) scRn.nd rfl (Or.inl rfl))
        (pss_one (ps_if (pt_cmp (pc_dnotin hu (pv 4) (pv 2)))
          (pss_one (ps_dput hu (pv 2) (pv 4) (pe_bm PySem.F.plainAttrs_list PySem.F.slot_list_pop PySem.F.type_list_pop mt_popAt (pv 3) (pa_cons
            (pe_call GD hr (by rfl) T.p.gDraw FD.kp bD .nil pass0 (pa_cons (pv 0) (pa_cons (pe_callB call_len_seq (by rfl) T.p.len PySem.boot_len (pa_cons (pv 3) pa_nil)) pa_nil))) pa_nil)) rfl)) pss_nil)))
      (pss_one (ps_ret (pe_callTy call_tuple_of (by rfl) T.tuple (by decide +kernel) (pa_cons
        (pe_lc (own := [("_law_thing", 4)]) (g := gName 4) (tt := tYes) rfl scRn.nd (pi_tup (pv 1)) (blkOk_by (N := NRn) (sc := defScope sRn) (by decide +kernel))
          (fun _ _ _ _ _ => pg_name (i := 4) scRn.nd rfl (Or.inl rfl)) (fun _ _ _ _ _ => pts_nil) (fun _ _ _ _ _ => pe_dget hu (pv 2) (pv 4) (fun _ _ => rfl))) pa_nil))))), ?_⟩
    refine fun d nd => ⟨upd_same, [(Sum.inl 0, V.int 0)], rfl, by decide, 1, 100, rfl, rfl, RgOk.of_le (by decide) (by decide) (by decide) (by decide), fun l nl => ⟨(by show 2 ≤ sizeLine; decide), fun t nt => ⟨t, _, rfl, SqT.of upd_same, rfl, _, _, rfl, _, _, rfl, rfl, ?_⟩⟩⟩
    refine sq_st (σ' := [some (.ref p), some (.ref s), some (.ref d), some (.ref l), none]) rfl ?_
    have e0 : mergeK [] [((Sum.inl 0 : Key), V.int 0)] = [(Sum.inl 0, V.int 0)] := rfl
    rw [e0] at nl nt ⊢
    have s1 : Same H (upd (upd H d (.dK [])) d (.dK [(Sum.inl 0, V.int 0)])) := Same.upd_new (Same.new nd) nd
    have ed1 : (upd (upd H d (.dK [])) d (.dK [(Sum.inl 0, V.int 0)])) d = some (.dK [(Sum.inl 0, V.int 0)]) := upd_same
    generalize upd (upd H d (.dK [])) d (.dK [(Sum.inl 0, V.int 0)]) = H1 at s1 ed1 nl nt ⊢
    have el2 := Same.new nt (o := .tup [V.ref d, V.ref l]) _ _ (upd_same (H := H1) (a := l) (o := .lst (rgV 1 100)))
    have s2 := (Same.new nl (o := .lst (rgV 1 100))).trans (Same.new (o := .tup [V.ref d, V.ref l]) nt)
    have nlH : H l = none := Same.none s1 nl
    have ld : l ≠ d := Ne.symm (ne_of_none ed1 nl)
    have ed2 := s2 _ _ ed1
    have s12 := s1.trans s2
    generalize upd (upd H1 l (.lst (rgV 1 100))) t (.tup [V.ref d, V.ref l]) = H2 at el2 s2 ed2 s12 ⊢
    obtain ⟨pd, plc⟩ := hP.off nd
    obtain ⟨pl, cl⟩ := hP.off nlH
    have rg : rgV 1 100 = ((List.range 99).map fun i => ((1 : Int) + (i : Nat))).map V.int := by
      unfold rgV
      rw [List.map_map]
      rfl
    rw [rg] at el2
    refine ⟨_, rfl, s, rfl, ⟨_, SqT.of (s12 _ _ hs)⟩, ?_⟩
    refine for_it (walk_tup (K := K) (a := s) (xs := st.map V.int)) (fun i σ H' => ∃ (v4 : Option V) (kvs : List (Key × V)) (L : List Int), σ = [some (.ref p), some (.ref s), some (.ref d), some (.ref l), v4] ∧ H' d = some (.dK kvs) ∧ (∀ z ∈ st.take i, (valV kvs (Sum.inl z)).isSome = true) ∧ (∀ k y, valV kvs k = some y → ∃ v : Int, y = .int v ∧ 0 ≤ v ∧ v ≤ 100) ∧
        H' l = some (.lst (L.map V.int)) ∧ (∀ z ∈ L, 0 ≤ z ∧ z ≤ 100) ∧ 99 ≤ L.length + i ∧ L.length ≤ 99 ∧ kvs.length ≤ 1 + i ∧ H' s = some (.tup (st.map V.int)) ∧ Kp H H' ∧ Pen H' p c (b + (st.length - i)))
      ⟨none, _, _, rfl, ed2, (fun z hz => by rw [List.take_zero] at hz; cases hz), (fun k y h => ?_), el2, (fun z hz => by obtain ⟨i, hi, rfl⟩ := List.mem_map.mp hz; rw [List.mem_range] at hi; omega), by simp, by simp, Nat.le_refl 1, s12 _ _ hs, .of_same s12, by rw [Nat.sub_zero]; exact hP.same s12⟩ (fun i σ H' _ ⟨_, _, _, _, _, _, _, _, _, _, _, _, e, _⟩ => SqT.of e) ?_ ?_
    · by_cases ck : (Sum.inl 0 : Key) = k
      · rw [valV_pos ck] at h
        exact ⟨0, (Option.some.inj h).symm, by decide, by decide⟩
      · rw [valV_neg ck] at h
        cases h
    · rintro i v σ H3 H3' hi ⟨v4, kvs, L, rfl, ed, hT, hV, eL, hL, l99, lL, lk, es, kp, pn⟩ ⟨rfl, hv⟩
      rw [List.getElem?_map] at hv
      obtain ⟨z, ez, rfl⟩ := Option.map_eq_some_iff.mp hv
      have hil : i < st.length := (List.getElem?_eq_some_iff.mp ez).1
      refine gset_go (σ' := [some (.ref p), some (.ref s), some (.ref d), some (.ref l), some (.int z)]) rfl ?_
      refine ⟨_, rfl, _, rfl, d, _, rfl, DGet.k (k := Sum.inl z) ed, _, rfl, ?_⟩
      cases hz : valV kvs (Sum.inl z) with
      | some y =>
        refine iteF' rfl ?_
        refine ⟨_, kvs, L, rfl, ed, fun u hu => ?_, hV, eL, hL, by omega, lL, by omega, es, kp, pn.less (by omega)⟩
        rw [take_next ez] at hu
        rcases List.mem_append.mp hu with hu | hu
        · exact hT u hu
        · rw [List.mem_singleton.mp hu, hz]
          rfl
      | none =>
        refine iteT' rfl ?_
        obtain ⟨kv3, hk3⟩ := pn.there
        refine ⟨_, rfl, .inl ⟨rfl, _, SqL.of eL⟩, _, rfl, _, rfl, l, _, rfl, .inl (SqL.of eL), p, c, _, b + (st.length - (i + 1)), rfl, by rw [show b + (st.length - (i + 1)) + 1 = b + (st.length - i) by omega]; exact pn, by rw [List.length_map]; omega, by rw [List.length_map]; omega, fun j H4 j0 j1 P4 B4 => ?_⟩
        rw [List.length_map] at j1
        have eL4 := B4 l _ (Ne.symm pl) eL
        have ed4 := B4 d _ (Ne.symm pd) ed
        have es4 := B4.keep hk3 es (by intro z; cases z)
        have hj : (L.map V.int)[j.toNat]? = some (.int (L.getD j.toNat 0)) := getD_at (by omega)
        have hmem : L.getD j.toNat 0 ∈ L := getD_mem (by omega)
        refine ⟨l, _, j, j.toNat, _, rfl, rfl, eL4, by omega, by omega, PySem.seqIndex_of j0 (by rw [List.length_map]; exact j1), hj, ?_⟩
        have ed5 : (upd H4 l (.lst ((L.map V.int).eraseIdx j.toNat))) d = some (.dK kvs) := by rw [upd_ne (Ne.symm ld)]; exact ed4
        refine ⟨_, rfl, _, rfl, d, _, rfl, DPut.k (k := Sum.inl z) ed5 (Nat.lt_of_le_of_lt (by omega : kvs.length ≤ 100) (by decide)), ?_⟩
        refine ⟨_, putK kvs (Sum.inl z) (.int (L.getD j.toNat 0)), L.eraseIdx j.toNat, rfl, upd_same, fun u hu => ?_, fun k y h => ?_, by rw [upd_ne ld, upd_same, er_map], fun u hu => hL u (List.mem_of_mem_eraseIdx hu), ?_, ?_, Nat.le_trans (length_putK _ _ _) (by omega), ?_, ((kp.trans (.of_but B4 hk3)).upd nlH).upd nd, ((P4.upd pl cl).upd pd plc)⟩
        · rw [take_next ez] at hu
          rw [valV_put]
          by_cases cz : (Sum.inl u : Key) = Sum.inl z
          · rw [if_pos cz]
            rfl
          · rw [if_neg cz]
            rcases List.mem_append.mp hu with hu | hu
            · exact hT u hu
            · exact absurd (by rw [List.mem_singleton.mp hu]) cz
        · rw [valV_put] at h
          by_cases cz : k = Sum.inl z
          · rw [if_pos cz] at h
            obtain ⟨h1, h2⟩ := hL _ hmem
            exact ⟨_, (Option.some.inj h).symm, h1, h2⟩
          · rw [if_neg cz] at h
            exact hV k y h
        · rw [List.length_eraseIdx]
          split <;> omega
        · rw [List.length_eraseIdx]
          split <;> omega
        · have : s ≠ d := ne_of_none hs nd
          have h2 : s ≠ l := ne_of_none hs nlH
          rw [upd_ne this, upd_ne h2]
          exact es4
    · rintro σ H3 ⟨v4, kvs, L, rfl, ed, hT, hV, eL, hL, l99, lL, lk, es, kp, pn⟩
      rw [List.length_map, List.take_length] at hT
      refine ⟨_, rfl, s, rfl, ⟨_, SqT.of es⟩, fun D nD => ?_⟩
      refine lc_tup (K := K) (a := s) (xs := st.map V.int) (fun i H' => ∃ T : List Int, H' D = some (.lst (T.map V.int)) ∧ T.length = i ∧ (∀ z ∈ T, 0 ≤ z ∧ z ≤ 100) ∧ Same H3 H') ⟨[], upd_same, rfl, (fun z hz => by cases hz), Same.new nD⟩ (fun i H' _ ⟨_, _, _, _, s⟩ => SqT.of (s _ _ es)) (fun i v H4 hv h => ?_) (fun H4 h => ?_)
      · obtain ⟨T2, eD, lT, hT2, s4⟩ := h
        rw [List.getElem?_map] at hv
        obtain ⟨z, ez, rfl⟩ := Option.map_eq_some_iff.mp hv
        have hil : i < st.length := (List.getElem?_eq_some_iff.mp ez).1
        obtain ⟨y, ey⟩ := Option.isSome_iff_exists.mp (hT z (List.mem_of_getElem? ez))
        obtain ⟨v, rfl, v0, v1⟩ := hV _ _ ey
        refine ⟨rfl, yes_if ?_⟩
        refine ⟨_, rfl, _, rfl, d, .int v, rfl, ey ▸ DGet.k (k := Sum.inl z) (s4 _ _ ed), _, eD, by rw [List.length_map, lT]; exact Nat.lt_of_le_of_lt (by omega : i ≤ 100) (by decide), T2 ++ [v], by rw [upd_same, List.map_append]; rfl, by rw [List.length_append, lT]; rfl, fun u hu => ?_, Same.upd_new s4 nD⟩
        rcases List.mem_append.mp hu with hu | hu
        · exact hT2 u hu
        · rw [List.mem_singleton.mp hu]
          exact ⟨v0, v1⟩
      · obtain ⟨T2, eD, lT, hT2, s4⟩ := h
        rw [List.length_map] at lT
        refine ⟨D, _, rfl, .inl ⟨SqL.of eD, fun t nt => ?_⟩⟩
        have st' := Same.new (o := .tup (T2.map V.int)) nt
        exact k t T2 _ upd_same lT hT2 (kp.trans (.of_same (s4.trans st'))) (((pn.same (s4.trans st'))).less (by omega))
theorem scSm : FnScope ["_law_pen_here", "_law_yard", "_law_stand"] ["_law_pen_here"] (defScope sSm) := ⟨rfl, rfl, rfl, by decide +kernel, rfl, by decide +kernel, by decide +kernel⟩
theorem ok_sm {f : Addr} {fd fdD fdY fdS fdR : FuncData} (F : Fun K "_law_small_yard" "_law_small_yard" sSm f fd) (T : TG K mg fDraw) (FD : Fun K "_law_draw" "_law_draw" sDraw fDraw fdD) (bD : Binds K fdD ["_law_pen_here", "_law_many"] [])
    (gY : mg "_law_drawn_yard" = some (.ref fDY)) (GY : FnOk P w K mg base CX0 3 fDY fdY ["_law_pen_here", "_law_most", "_law_ways", "_law_rings"] (spDYard K)) (FY : Fun K "_law_drawn_yard" "_law_drawn_yard" sDYard fDY fdY) (bY : Binds K fdY ["_law_pen_here", "_law_most", "_law_ways", "_law_rings"] [])
    (gS : mg "_law_drawn_stand" = some (.ref fDS)) (GS : FnOk P w K mg base CX0 2 fDS fdS ["_law_pen_here", "_law_places", "_law_holes", "_law_kinds"] (spStand K)) (FS : Fun K "_law_drawn_stand" "_law_drawn_stand" sStand fDS fdS) (bS : Binds K fdS ["_law_pen_here", "_law_places", "_law_holes", "_law_kinds"] [])
    (gR : mg "_law_renamed" = some (.ref fRn)) (GR : FnOk P w K mg base CX0 2 fRn fdR ["_law_pen_here", "_law_stand"] (spRn K)) (FR : Fun K "_law_renamed" "_law_renamed" sRn fRn fdR) (bR : Binds K fdR ["_law_pen_here", "_law_stand"] []) :
    FnOk P w K mg base CX0 4 f fd ["_law_pen_here"] (spSm K) := by
  have GD : FnOk P w K mg base CX0 1 fDraw fdD ["_law_pen_here", "_law_many"] spDraw := ok_draw FD T.p
  refine F.ok scSm (fun vs H Q E h => ?_) (fun cdv A outer s H vs Q E hr h => ?_)
  · obtain ⟨p, c, b, rfl, _⟩ := h
    rfl
  · obtain ⟨p, c, b, rfl, hP, k⟩ := h
    have hr1 : Room 1 _ := hr.mono (by decide)
    have hr2 : Room 2 _ := hr.mono (by decide)
    refine ⟨_, pss_cons (ps_set (i := 1) scSm.nd rfl (Or.inl rfl) (pe_call GY hr (by rfl) gY FY.kp bY .nil pass0 (pa_cons (pv 0) (pa_cons pe_int (pa_cons
        (pe_cmpR op_eq (pe_call GD hr1 (by rfl) T.p.gDraw FD.kp bD .nil pass0 (pa_cons (pv 0) (pa_cons pe_int pa_nil))) pe_int (nomark _)) (pa_cons
        (pe_cmpR op_eq (pe_call GD hr1 (by rfl) T.p.gDraw FD.kp bD .nil pass0 (pa_cons (pv 0) (pa_cons pe_int pa_nil))) pe_int (nomark _)) pa_nil))))))
      (pss_cons (ps_set (i := 2) scSm.nd rfl (Or.inl rfl) (pe_call GS hr2 (by rfl) gS FS.kp bS .nil pass0 (pa_cons (pv 0) (pa_cons (pe_ix ix_tup (pv 1) pe_int (fun _ _ => rfl)) (pa_cons
        (pe_call GD hr1 (by rfl) T.p.gDraw FD.kp bD .nil pass0 (pa_cons (pv 0) (pa_cons (pe_op op_add (pe_ix ix_tup (pv 1) pe_int (fun _ _ => rfl)) pe_int) pa_nil))) (pa_cons
        (pe_cmpR op_eq (pe_call GD hr1 (by rfl) T.p.gDraw FD.kp bD .nil pass0 (pa_cons (pv 0) (pa_cons pe_int pa_nil))) pe_int (nomark _)) pa_nil))))))
      (pss_one (ps_ret (pe_tup (pa_cons (pv 1) (pa_cons (pe_ifExp (pt_cmpR op_eq (pe_call GD hr1 (by rfl) T.p.gDraw FD.kp bD .nil pass0 (pa_cons (pv 0) (pa_cons pe_int pa_nil))) pe_int (nomark _))
        (pe_call GR hr2 (by rfl) gR FR.kp bR .nil pass0 (pa_cons (pv 0) (pa_cons (pv 2) pa_nil))) (pv 2)) pa_nil)))))), ?_⟩
    obtain ⟨kv, hk⟩ := hP.there
    refine ⟨_, rfl, _, rfl, p, c, 3, b + 129, rfl, hP, by decide, by decide, fun n1 H1 _ _ P1 B1 => ⟨rfl, ?_⟩⟩
    obtain ⟨kv1, hk1⟩ := P1.there
    refine ⟨_, rfl, p, c, 3, b + 128, rfl, P1, by decide, by decide, fun n2 H2 _ _ P2 B2 => ⟨rfl, ?_⟩⟩
    have kp2 : Kp H H2 := (Kp.of_but B1 hk).trans (.of_but B2 hk1)
    refine ⟨p, c, 5, b + 28, _, _, rfl, P2, by decide, by decide, fun q n ts rs H3 hy ok n5 kp3 P3 => ?_⟩
    refine gset_go (σ' := [some (.ref p), some (.ref q), none]) rfl ?_
    obtain ⟨ya, ye, yys, yzs, hq, _⟩ := id hy
    have n60 := ok.2.1
    have n1 := ok.1
    obtain ⟨kv3, hk3⟩ := P3.there
    refine ⟨_, rfl, _, rfl, q, _, 0, _, rfl, rfl, hq, atI_nat (j := 0) rfl, ?_⟩
    refine ⟨_, rfl, _, rfl, q, _, 0, _, rfl, rfl, hq, atI_nat (j := 0) rfl, _, _, rfl, rfl, p, c, _, b + 27, rfl, P3, by omega, by omega, fun ho H4 ho0 ho1 P4 B4 => ?_⟩
    obtain ⟨kv4, hk4⟩ := P4.there
    refine ⟨_, rfl, p, c, 3, b + 26, rfl, P4, by decide, by decide, fun n3 H5 _ _ P5 B5 => ⟨rfl, ?_⟩⟩
    have kp5 : Kp H3 H5 := (Kp.of_but B4 hk3).trans (.of_but B5 hk4)
    refine ⟨p, c, n, ho.toNat, b + 16, decide (V.int n3 = V.int 0), by rw [show ((ho.toNat : Nat) : Int) = ho by omega]; rfl, P5.less (by omega), by omega, by omega, fun s st H6 sok hs kp6 P6 => ?_⟩
    refine gset_go (σ' := [some (.ref p), some (.ref q), some (.ref s)]) rfl ?_
    obtain ⟨kv6, hk6⟩ := P6.there
    refine ⟨_, rfl, _, rfl, p, c, 2, b + 15, rfl, P6, by decide, by decide, fun n4 H7 _ _ P7 B7 => ⟨rfl, ?_⟩⟩
    have kp7 := kp6.trans (.of_but B7 hk6)
    have hs7 := B7.keep hk6 hs (by intro z; cases z)
    have kpA := (kp2.trans kp3).trans (kp5.trans kp7)
    have hy7 := hy.kp (kp5.trans kp7)
    refine ⟨_, rfl, ?_⟩
    refine ifT (fun _ => ?_) (fun _ => ?_)
    · refine ⟨_, rfl, _, rfl, p, c, s, st, b + 15 - st.length, rfl, P7.less (by have := sok.1; omega), hs7, by have := sok.1; omega, fun t st' H8 ht lt ht0 kp8 P8 => ⟨(by show 2 ≤ sizeLine; decide), fun u nu => ?_⟩⟩
      have su := Same.new (o := .tup [.ref q, .ref t]) nu
      exact k u q t n ts rs st' _ upd_same ((hy7.kp kp8).kp (.of_same su)) ok n5 (su _ _ ht) (by rw [lt, sok.1]) ht0 ((kpA.trans kp8).trans (.of_same su)) ((P8.same su).less (by have := sok.1; omega))
    · refine ⟨_, rfl, (by show 2 ≤ sizeLine; decide), fun u nu => ?_⟩
      have su := Same.new (o := .tup [.ref q, .ref s]) nu
      exact k u q s n ts rs st _ upd_same (hy7.kp (.of_same su)) ok n5 (su _ _ hs7) sok.1 (fun z hz => by have := sok.2 z hz; omega) (kpA.trans (.of_same su)) ((P7.same su).less (by omega))
end
end Y
set_option Elab.async false
set_option linter.all false
set_option maxRecDepth 100000
set_option maxHeartbeats 4000000
namespace Y
open PySem PySem.Spec PyProof.Rows L2
/-! ### how many, how long -/
def ins (a : Int) : List Int → List (List Int)
  | [] => [[a]]
  | b :: l => (a :: b :: l) :: (ins a l).map (b :: ·)
def permsL : List Int → List (List Int)
  | [] => [[]]
  | a :: l => (permsL l).flatMap (ins a)
theorem ins_len (a : Int) : ∀ l, (ins a l).length = l.length + 1
  | [] => rfl
  | b :: l => by
    show (_ :: (ins a l).map (b :: ·)).length = _
    rw [List.length_cons, List.length_map, ins_len a l, List.length_cons]
theorem ins_mem (a : Int) : ∀ (s t : List Int), s ++ a :: t ∈ ins a (s ++ t)
  | [], [] => List.mem_cons_self
  | [], b :: t => List.mem_cons_self
  | b :: s, t => List.mem_cons_of_mem _ (List.mem_map.mpr ⟨_, ins_mem a s t, rfl⟩)
theorem perms_mem : ∀ {l x : List Int}, x.Perm l → x ∈ permsL l
  | [], x, h => by rw [h.eq_nil]; exact List.mem_singleton.mpr rfl
  | a :: l, x, h => by
    obtain ⟨s, t, rfl⟩ := List.append_of_mem (h.mem_iff.mpr List.mem_cons_self)
    have p : (s ++ t).Perm l := (List.perm_middle.symm.trans h).cons_inv
    exact List.mem_flatMap.mpr ⟨_, perms_mem p, ins_mem a s t⟩
theorem perms_all : ∀ {l x : List Int}, x ∈ permsL l → x.length = l.length
  | [], x, h => by rw [List.mem_singleton.mp h]
  | a :: l, x, h => by
    obtain ⟨y, hy, hx⟩ := List.mem_flatMap.mp h
    have := perms_all hy
    have key : ∀ {l x : List Int}, x ∈ ins a l → x.length = l.length + 1 := fun {l} => by
      induction l with
      | nil => intro x hx; rw [List.mem_singleton.mp hx]; rfl
      | cons b l ih =>
        intro x hx
        rcases List.mem_cons.mp hx with rfl | hx
        · rfl
        · obtain ⟨z, hz, rfl⟩ := List.mem_map.mp hx
          rw [List.length_cons, ih hz, List.length_cons]
    rw [key hx, this, List.length_cons]
theorem flat_len {m : Nat} (f : List Int → List (List Int)) : ∀ (L : List (List Int)), (∀ x ∈ L, (f x).length = m) → (L.flatMap f).length = L.length * m
  | [], _ => by simp
  | a :: L, h => by
    rw [List.flatMap_cons, List.length_append, h a List.mem_cons_self, flat_len f L fun x hx => h x (List.mem_cons_of_mem _ hx), List.length_cons, Nat.succ_mul]
    omega
theorem permsL_len (a : Int) (l : List Int) : (permsL (a :: l)).length = (permsL l).length * (l.length + 1) := by
  show ((permsL l).flatMap (ins a)).length = _
  exact flat_len _ _ fun x hx => by rw [ins_len, perms_all hx]
theorem perms120 {r : Rw} {l : List Rw} (h5 : r.length ≤ 5) (nd : l.Nodup) (h : ∀ x ∈ l, x.Perm r) : l.length ≤ 120 := by
  have h1 := sub_len nd fun x hx => perms_mem (h x hx)
  refine Nat.le_trans h1 ?_
  match r, h5 with
  | [], _ => decide
  | [a], _ => rw [permsL_len]; decide
  | [a, b], _ => rw [permsL_len, permsL_len]; exact (by decide : 1 * 1 * 2 ≤ 120)
  | [a, b, c], _ => rw [permsL_len, permsL_len, permsL_len]; exact (by decide : 1 * 1 * 2 * 3 ≤ 120)
  | [a, b, c, d], _ => rw [permsL_len, permsL_len, permsL_len, permsL_len]; exact (by decide : 1 * 1 * 2 * 3 * 4 ≤ 120)
  | [a, b, c, d, e], _ => rw [permsL_len, permsL_len, permsL_len, permsL_len, permsL_len]; exact (by decide : 1 * 1 * 2 * 3 * 4 * 5 ≤ 120)
section
variable {n d : Nat} {ts : List (Int × Int)} {rs : List (List Int)} {r : Rw}
theorem sn120 (yp : YP n ts rs) (hl : r.length = n) (n5 : n ≤ 5) (k : Nat) : (Sn (stepsV ts rs) r k).length ≤ 120 := perms120 (by omega) (Sn_nodup k) (sn_perm yp hl k)
theorem ly120 (yp : YP n ts rs) (hl : r.length = n) (n5 : n ≤ 5) (k : Nat) : (Ly (stepsV ts rs) r k).length ≤ 120 := perms120 (by omega) (Ly_nodup k) (ly_perm yp hl k)
theorem dep120 (yp : YP n ts rs) (hl : r.length = n) (n5 : n ≤ 5) (dep : Dep (stepsV ts rs) r d) : d + 1 ≤ 120 := Nat.le_trans (Sn_grow d dep.ne) (sn120 yp hl n5 d)
theorem sum_le {M : Nat} : ∀ {l : List Int}, (∀ z ∈ l, z.natAbs ≤ M) → l.sum.natAbs ≤ l.length * M
  | [], _ => Nat.zero_le _
  | a :: l, h => by
    have h1 := h a List.mem_cons_self
    have ih := sum_le (l := l) fun z hz => h z (List.mem_cons_of_mem _ hz)
    rw [List.sum_cons, List.length_cons, Nat.succ_mul]
    have := Int.natAbs_add_le a l.sum
    omega
theorem cnt_le (yp : YP n ts rs) (hl : r.length = n) (n5 : n ≤ 5) : ∀ k x, (cnt (stepsV ts rs) r k x).natAbs ≤ 14400 ^ k
  | 0, _ => Nat.le_refl 1
  | k + 1, x => by
    have h1 := sum_le (M := 14400 ^ k) (l := (into (edges (stepsV ts rs) (Ly (stepsV ts rs) r k)) x).map fun p => cnt (stepsV ts rs) r k p.1) fun z hz => by
      obtain ⟨p, _, rfl⟩ := List.mem_map.mp hz
      exact cnt_le yp hl n5 k p.1
    refine Nat.le_trans h1 ?_
    rw [List.length_map, Nat.pow_succ, Nat.mul_comm (14400 ^ k)]
    refine Nat.mul_le_mul_right _ ?_
    have h2 := into_len (edges (stepsV ts rs) (Ly (stepsV ts rs) r k)) x
    have h3 := edges_len (S := stepsV ts rs) (m := 120) (L := Ly (stepsV ts rs) r k) fun r _ => steps_len yp r
    have h4 : (Ly (stepsV ts rs) r k).length * 120 ≤ 120 * 120 := Nat.mul_le_mul_right _ (ly120 yp hl n5 k)
    omega
theorem cnt_log (yp : YP n ts rs) (hl : r.length = n) (n5 : n ≤ 5) {k : Nat} (hk : k ≤ 119) (x : Rw) : (cnt (stepsV ts rs) r k x).natAbs.log2 < 1920 := by
  have h1 := cnt_le yp hl n5 k x
  have h2 : 14400 ^ k ≤ 14400 ^ 119 := Nat.pow_le_pow_right (by decide) hk
  have h3 : 14400 ^ 119 < 2 ^ 1920 := by decide +kernel
  by_cases c : (cnt (stepsV ts rs) r k x).natAbs = 0
  · rw [c]
    decide
  · exact (Nat.log2_lt c).mpr (by omega)
end
/-! what repr shows of layers -/
def rwD (r : Rw) : PyData := .tuple (r.map PyData.int)
def rwsD (M : List Rw) : PyData := .tuple (M.map rwD)
def lysD (Ms : List (List Rw)) : PyData := .tuple (Ms.map rwsD)
section
variable {K : PySem.W.Frag} {H : Hp}
theorem dqs_ints : ∀ r : Rw, Dqs K H (r.map PyData.int) (r.map V.int)
  | [] => .nil
  | a :: r => .cons (.int a) (dqs_ints r)
theorem dq_rw {v : V} {r : Rw} (h : RowV H v r) : Dq K H (rwD r) v := by
  obtain ⟨b, rfl, h⟩ := h
  exact .tup (SqT.of h) (dqs_ints r)
theorem dqs_rows {vs : List V} {M : List Rw} (h : Paired (RowV H) vs M) : Dqs K H (M.map rwD) vs := by
  induction h with
  | nil => exact .nil
  | cons a _ ih => exact .cons (dq_rw a) ih
theorem dq_rows {v : V} {M : List Rw} (h : RowsV H v M) : Dq K H (rwsD M) v := by
  obtain ⟨t, vs, rfl, h1, h2⟩ := h
  exact .tup (SqT.of h1) (dqs_rows h2)
theorem dqs_lays {vs : List V} {M : List (List Rw)} (h : Paired (RowsV H) vs M) : Dqs K H (M.map rwsD) vs := by
  induction h with
  | nil => exact .nil
  | cons a _ ih => exact .cons (dq_rows a) ih
theorem dq_lays {v : V} {Ms : List (List Rw)} (h : LayersV H v Ms) : Dq K H (lysD Ms) v := by
  obtain ⟨t, vs, rfl, h1, h2⟩ := h
  exact .tup (SqT.of h1) (dqs_lays h2)
end
end Y
set_option Elab.async false
set_option linter.all false
set_option maxRecDepth 100000
set_option maxHeartbeats 1000000
namespace Y
open PySem PySem.Spec PyProof.Rows L2 LamX
/-! ### the law's lambdas -/
abbrev sLaw : Stmt := top 55
abbrev NLaw : List Str := ["_law_script", "_law_pen_here", "_law_lap", "_law_yard", "_law_turned_here", "_law_told", "_law_far", "_law_counts", "_law_last", "_law_due", "_law_turn", "_law_stand", "_law_row", "_law_k", "_law_deep", "_law_number", "_law_found", "_law_floor", "_law_goal", "_law_many", "_law_odd", "_law_stranger", "_law_one"]
def qLam : Str := (envOfC "law" (defScope sLaw) 0 0 (.none : Value)).qual ++ "<lambda>"
theorem tabs_kp {T : List (Addr × Str)} {H H' : Hp} (t : Tabs T H) (s : Kp H H') : Tabs T H' := fun p hp => by
  obtain ⟨ps, h1, h2, h3⟩ := t p hp
  refine ⟨ps, s _ _ h1 (by intro _ z; cases z), h2, fun pos cv hc => ?_⟩
  obtain ⟨c, e1, e2⟩ := h3 pos cv hc
  exact ⟨c, e1, s _ _ e2 (by intro _ z; unfold CodeO at z; cases z)⟩
/-- nothing raised -/
theorem passF {X : Cx} {P : Program} {w : World} : Passes (L2.CX P w) X (fun _ _ _ => False) := fun _ _ _ _ _ _ _ h => by
  obtain ⟨_, _, _, _, _, _, _, _, _, _, _, _, z⟩ := h
  exact z.elim
section
variable {X : Cx} {K : PySem.W.Frag} {c Pt fFa fL CU CM CN : Addr} {fdW fdL : FuncData} {params : Arguments} {scope : Scope} {p p1 p2 p3 p4 p5 p6 p7 p8 q1 q2 q3 q4 q5 lpos pos : Pos}
end
end Y
set_option Elab.async false
set_option linter.all false
set_option maxRecDepth 100000
set_option maxHeartbeats 4000000
namespace Y
open PySem PySem.Spec PyProof.Rows L2 LamX
/-! ### _law_fault, with BadNumber -/
/-- None, a bool, an int or a text -/
def isSc : PyData → Bool
  | .none => true
  | .bool _ => true
  | .int _ => true
  | .str _ => true
  | _ => false
def rShowS (K : PySem.W.Frag) : List V → Hp → VK → Prop := fun xs H Q => ∃ (x : V) (d : PyData), xs = [x] ∧ Dq K H d x ∧ isSc d = true ∧ d.showable = true ∧ d.shown.length ≤ sizeLine ∧ Q (.str d.shown) H
theorem call_showS {X : Cx} {K : PySem.W.Frag} (eK : X.K = K) : CallR X (.builtin "repr") (rShowS K) := by
  subst eK
  intro pins s σ H xs us Q I r h
  obtain ⟨x, d, rfl, dq, sc, sh, sz, q⟩ := h
  obtain ⟨u, rfl, ru⟩ := vals1 r
  cases dq with
  | non => cases ru; rw [PyData.shown_none] at q; exact PySem.P.repr_of_none ⟨.str _, H, I.tok _, ⟨_, rfl⟩, q⟩
  | bl b => cases ru; rw [PyData.shown_bool] at q; exact PySem.P.repr_of_bool ⟨.str _, H, I.tok _, ⟨_, rfl⟩, q⟩
  | int i =>
    obtain ⟨t, rfl⟩ := ru
    rw [PyData.shown_int] at q
    exact PySem.P.repr_of_int (of_decide_eq_true (by simpa [PyData.showable] using sh)) ⟨.str _, H, I.tok _, ⟨_, rfl⟩, q⟩
  | str y =>
    obtain ⟨t, rfl⟩ := ru
    rw [PyData.shown_str] at q sz
    exact PySem.P.repr_of_str ⟨.str _, H, I.tok _, ⟨_, rfl⟩, q⟩ sz
  | lst _ _ => cases sc
  | tup _ _ => cases sc
  | dct _ => cases sc
structure TFb (K : PySem.W.Frag) (mg : Str → Option Value) (CU CM CN : Addr) : Prop where
  a : TFa K mg CU CM CN
  nU : PySem.W.exmOne K (.ref CN) (.ref CU) = some false
  nM : PySem.W.exmOne K (.ref CN) (.ref CM) = some false
  nN : PySem.W.exmOne K (.ref CN) (.ref CN) = some true
/-- what the lambda's call comes to: an error whose fields are small -/
def TTb (K : PySem.W.Frag) (CM CN : Addr) : (XK → Hp → VK → Prop) → Hp → VK → Prop := fun tl H Q => ∀ H1, Same H H1 → ∀ R : VK,
  tl (fun cls d H' => (cls = .ref CM ∧ ∃ dd i, d = some dd ∧ H' dd = some (.xd [("most", .int i)]) ∧ i.natAbs.log2 < 1920 ∧ ∀ t, H' t = none → Q (.ref t) (upd H' t (.tup [.str "many", .str (toString i)]))) ∨
    (cls = .ref CN ∧ ∃ dd w v dt, d = some dd ∧ H' dd = some (.xd [("number", v), ("what", .str w)]) ∧ Dq K H' dt v ∧ isSc dt = true ∧ dt.showable = true ∧ dt.shown.length ≤ sizeLine ∧ ∀ t, H' t = none → Q (.ref t) (upd H' t (.tup [.str "number", .str w, .str dt.shown])))) H1 R
def tFbN (K : PySem.W.Frag) (C : Addr) : Addr → Value → Option Addr → TS := fun a cls d => tAsg (tTup (tCons (tC (.str "number")) (tCons (tXf a cls d C "what" (tVar 2)) (tCons (tCB (rShowS K) (tCons (tXf a cls d C "number" (tVar 2)) tNil)) tNil)))) (gName 1)
theorem fault_givesB {X : Cx} {K : PySem.W.Frag} {CU CM CN : Addr} {q : Str} {g : Addr} {cdg : Value} (eK : X.K = K) (TB : TFb X.K X.mg CU CM CN) : GivesTo X NFa "_law_fault" (defScope sFa) g cdg (defBody sFa) "_law_call" q (TTb K CM CN) := by
  intro f c' s H Q tl act hc h
  have T := TB.a
  refine ⟨_, pss_cons (ps_set (i := 1) scFa.nd rfl (Or.inl rfl) (pe_tup (pa_cons pe_str pa_nil))) (pss_cons (ps_try_each (X := (cxOf C8.CX0 X.prog X.w X.K X.mg X.base NFa "_law_fault" (defScope sFa) g cdg X.A X.stack s H C8.E0).nox) (i := 2) (n := "error") (Wout := fun _ _ _ _ => False)
      (l := [(.ref CU, tFaU CU), (.ref CM, tFaM CM), (.ref CN, tFbN K CN)])
      (tb := fun W D σ H => ∃ Ech : XK, (∀ cls d σ' H', σ'.length = 3 → Ech cls d H' → W cls d σ' H') ∧ σ[0]? = some (some (.ref f)) ∧ H c' = some (CodeO c' q) ∧ tl Ech H (fun _ H' => D.nx σ H'))
      rfl rfl scFa.nd rfl rfl L2.takes0 (fun W pn xe tk _ => ?body)
      (.cons ⟨rfl, by decide, Or.inl T.gU⟩ (fun a oe cls d pn hz hf => pss_one (ps_set (i := 1) scFa.nd rfl (Or.inl rfl) (pe_tup (pa_cons pe_str (pa_cons (by exact pe_xf T.xU T.nU hz hf (pv 2)) pa_nil)))))
      (.cons ⟨rfl, by decide, Or.inl T.gM⟩ (fun a oe cls d pn hz hf => pss_one (ps_set (i := 1) scFa.nd rfl (Or.inl rfl) (pe_tup (pa_cons pe_str (pa_cons (pe_callB SkE.call_repr_int (by rfl) T.repr_ (by decide +kernel) (pa_cons (by exact pe_xf T.xM T.nM hz hf (pv 2)) pa_nil)) pa_nil)))))
      (.cons ⟨rfl, by decide, Or.inl T.gN⟩ (fun a oe cls d pn hz hf => pss_one (ps_set (i := 1) scFa.nd rfl (Or.inl rfl) (pe_tup (pa_cons pe_str (pa_cons (by exact pe_xf T.xN T.nN hz hf (pv 2)) (pa_cons (pe_callB (call_showS (K := K) eK) (by rfl) T.repr_ (by decide +kernel) (pa_cons (by exact pe_xf T.xN T.nN2 hz hf (pv 2)) pa_nil)) pa_nil)))))) .nil))))
    (pss_one (ps_ret (pv 1)))), ?_⟩
  case body =>
    refine ⟨fun pins s' σ H' D I h' => ?_⟩
    obtain ⟨Ech, hW, h1, h2, h3⟩ := h'
    exact (pss_one (ps_expr (act _ pn xe Ech _ _ (takes_len tk) (fun cls d σ' H' e l => hW cls d σ' H' l e)))).run pins s' σ H' D I ⟨h1, h2, h3⟩
  · refine ⟨(by show 1 ≤ sizeLine; decide), fun t0 nt0 => ?_⟩
    refine gset_go (σ' := [some (.ref f), some (.ref t0), none]) rfl ?_
    have s0 := Same.new (o := .tup [.str "none"]) nt0
    refine ⟨fun cls d H' => (cls = .ref CM ∧ ∃ dd i, d = some dd ∧ H' dd = some (.xd [("most", .int i)]) ∧ i.natAbs.log2 < 1920 ∧ ∀ t, H' t = none → Q (.ref t) (upd H' t (.tup [.str "many", .str (toString i)]))) ∨
      (cls = .ref CN ∧ ∃ dd w v dt, d = some dd ∧ H' dd = some (.xd [("number", v), ("what", .str w)]) ∧ Dq K H' dt v ∧ isSc dt = true ∧ dt.showable = true ∧ dt.shown.length ≤ sizeLine ∧ ∀ t, H' t = none → Q (.ref t) (upd H' t (.tup [.str "number", .str w, .str dt.shown]))), ?_, rfl, s0 _ _ hc, h _ s0 _⟩
    rintro cls d σ' H' lσ (⟨rfl, dd, i, rfl, e, hi, k⟩ | ⟨rfl, dd, w, v, dt, rfl, e, hdt, sc, sh, sz, k⟩)
    · refine ⟨false, T.mU, fun z => Bool.noConfusion z, fun _ => ⟨true, T.mM, fun _ a ha => ?_, fun z => Bool.noConfusion z⟩⟩
      match σ', lσ with
      | [v0, v1, v2], _ =>
        refine ⟨_, rfl, rfl, rfl, dd, _, _, rfl, e, rfl, i, rfl, hi, (by show 2 ≤ sizeLine; decide), fun t nt => ?_⟩
        refine gset_go rfl ?_
        exact ⟨_, rfl, k t nt⟩
    · refine ⟨false, TB.nU, fun z => Bool.noConfusion z, fun _ => ⟨false, TB.nM, fun z => Bool.noConfusion z, fun _ => ⟨true, TB.nN, fun _ a ha => ?_, fun z => Bool.noConfusion z⟩⟩⟩
      match σ', lσ with
      | [v0, v1, v2], _ =>
        refine ⟨_, rfl, rfl, rfl, dd, _, _, rfl, e, rfl, ?_⟩
        refine ⟨_, rfl, rfl, rfl, dd, _, _, rfl, e, rfl, v, dt, rfl, hdt, sc, sh, sz, (by show 3 ≤ sizeLine; decide), fun t nt => ?_⟩
        refine gset_go rfl ?_
        exact ⟨_, rfl, k t nt⟩
end Y
set_option Elab.async false
set_option linter.all false
set_option maxRecDepth 100000
set_option maxHeartbeats 4000000
namespace Y
open PySem PySem.Spec PyProof.Rows L2 LamX
/-! ### what stands while the law runs, what repr shows -/
def Ky (H H' : Hp) : Prop := ∀ b o, H b = some o → (∀ kvs, o ≠ .dK kvs) → (∀ ps, o ≠ .tbl ps) → H' b = some o
section
variable {K : PySem.W.Frag} {H H' H1 H2 : Hp}
theorem Ky.of_kp (s : Kp H H') : Ky H H' := fun b o e n _ => s b o e n
theorem Ky.of_ext (s : ExtN H H') : Ky H H' := fun b o e _ n => s b o e n
theorem Ky.of_same (s : Same H H') : Ky H H' := fun b o e _ _ => s b o e
theorem Ky.trans (a : Ky H H1) (b : Ky H1 H2) : Ky H H2 := fun c o e n m => b c o (a c o e n m) n m
theorem Ky.tup {a : Addr} {xs : List V} (s : Ky H H') (h : H a = some (.tup xs)) : H' a = some (.tup xs) := s _ _ h (fun _ z => by cases z) (fun _ z => by cases z)
theorem Ky.lst {a : Addr} {xs : List V} (s : Ky H H') (h : H a = some (.lst xs)) : H' a = some (.lst xs) := s _ _ h (fun _ z => by cases z) (fun _ z => by cases z)
theorem Ky.dt {a : Addr} {kvs : List (List Key × V)} (s : Ky H H') (h : H a = some (.dT kvs)) : H' a = some (.dT kvs) := s _ _ h (fun _ z => by cases z) (fun _ z => by cases z)
theorem Ky.seqT {a : Addr} {xs : List V} (s : Ky H H') (h : SqT K H a xs) : SqT K H' a xs := by
  rcases h with (h | ⟨o, h⟩) | h
  · exact .inl (.inl (s.tup h))
  · exact .inl (.inr ⟨o, s _ _ h (fun _ z => by cases z) (fun _ z => by cases z)⟩)
  · exact .inr h
theorem Ky.yc {C x : Addr} {n : Nat} {ts : List (Int × Int)} {rs : List (List Int)} (s : Ky H H') (h : YObjC K H C x n ts rs) : YObjC K H' C x n ts rs := by
  obtain ⟨dx, a, e, fs, ys, zs, h1, h2, h3, h4, h5, h6, h7, h8, h9⟩ := h
  exact ⟨dx, a, e, fs, ys, zs, s _ _ h1 (fun _ z => by cases z) (fun _ z => by cases z), h2, h3, h4, h5, s.seqT h6, par_map (fun y r ⟨b, e, hb⟩ => ⟨b, e, s.seqT hb⟩) h7, s.seqT h8, par_map (fun y r ⟨b, e, hb⟩ => ⟨b, e, s.seqT hb⟩) h9⟩
theorem Ky.lays {v : V} {Ms : List (List Rw)} (s : Ky H H') (h : LayersV H v Ms) : LayersV H' v Ms := h.kp fun b xs e => s.tup e
theorem Pen.ext {p l : Addr} {b : Nat} (h : Pen H p l b) (s : ExtN H H') : Pen H' p l b := by
  obtain ⟨ns, a, g, c, f, h1, h2, h3⟩ := h.ex
  exact ⟨ns, a, g, c, f, s _ _ h1 (by intro _ z; cases z), s _ _ h2 (by intro _ z; cases z), h3⟩
/-- a row that is shown: a list of it or the tuple -/
def ShR (K : PySem.W.Frag) (H : Hp) (a : Addr) (r : Rw) : Prop := H a = some (.lst (r.map V.int)) ∨ H a = some (.tup (r.map V.int))
theorem ShR.ky {a : Addr} {r : Rw} (s : Ky H H') (h : ShR K H a r) : ShR K H' a r := h.imp (fun h => s.lst h) fun h => s.tup h
theorem ShR.at_ {a : Addr} {r : Rw} (h : ShR K H a r) : SqL K H a (r.map V.int) ∨ H a = some (.tup (r.map V.int)) := h.imp (fun h => SqL.of h) id
end
theorem small_shown : ∀ k : Fin 201, (PyData.int ((k : Nat) : Int)).showable = true ∧ (PyData.int ((k : Nat) : Int)).depth ≤ 1 ∧ (PyData.int ((k : Nat) : Int)).shown.length ≤ 4 := by decide +kernel
theorem sh_int {z : Int} (h0 : 0 ≤ z) (h1 : z ≤ 200) : Sh (.int z) 1 4 := by
  have := small_shown ⟨z.toNat, by omega⟩
  have e : ((z.toNat : Nat) : Int) = z := by omega
  simp only [e] at this
  exact ⟨this.1, rfl, this.2.1, this.2.2⟩
theorem sh_rw {r : Rw} (hl : r.length ≤ 5) (h : ∀ z ∈ r, 0 ≤ z ∧ z ≤ 100) : Sh (rwD r) 2 34 := by
  refine sh_tuple (L := 4) (m := 5) (fun d hd => ?_) (by rw [List.length_map]; exact hl)
  obtain ⟨z, hz, rfl⟩ := List.mem_map.mp hd
  exact sh_int (h z hz).1 (by have := (h z hz).2; omega)
def SmallR (r : Rw) : Prop := r.length ≤ 5 ∧ ∀ z ∈ r, 0 ≤ z ∧ z ≤ 100
theorem sh_rws {M : List Rw} (hl : M.length ≤ 120) (h : ∀ r ∈ M, SmallR r) : Sh (rwsD M) 3 4324 := by
  refine sh_tuple (L := 34) (m := 120) (fun d hd => ?_) (by rw [List.length_map]; exact hl)
  obtain ⟨r, hr, rfl⟩ := List.mem_map.mp hd
  exact sh_rw (h r hr).1 (h r hr).2
theorem sh_lys {Ms : List (List Rw)} (hl : Ms.length ≤ 120) (h : ∀ M ∈ Ms, M.length ≤ 120 ∧ ∀ r ∈ M, SmallR r) : Sh (lysD Ms) 4 519124 := by
  refine sh_tuple (L := 4324) (m := 120) (fun d hd => ?_) (by rw [List.length_map]; exact hl)
  obtain ⟨M, hM, rfl⟩ := List.mem_map.mp hd
  exact sh_rws (h M hM).1 (h M hM).2
/-- the rule of repr, for data that can be shown -/
theorem show_go {K : PySem.W.Frag} {x : V} {d : PyData} {k L : Nat} {H : Hp} {Q : VK} (hd : Dq K H d x) (hs : Sh d k L) (hk : k ≤ 40) (hL : L ≤ 1000000) (h : Q (.str d.shown) H) : rShow K [x] H Q :=
  ⟨x, d, rfl, hd, hs.show_, (fun z => by rw [hs.nod] at z; cases z), Nat.le_trans hs.deep hk, Nat.le_trans hs.len (Nat.le_trans hL (by decide)), h⟩
theorem sh_rs {d : PyData} {k L : Nat} (hs : Sh d k L) (hk : k ≤ 40) (hL : L ≤ 1000000) : d.showable = true ∧ (d.hasDict = true → unlisted d = true) ∧ d.depth ≤ 40 ∧ d.shown.length ≤ sizeLine :=
  ⟨hs.show_, (fun z => by rw [hs.nod] at z; cases z), Nat.le_trans hs.deep hk, Nat.le_trans hs.len (Nat.le_trans hL (by decide))⟩
section
variable {n d : Nat} {ts : List (Int × Int)} {rs : List (List Int)} {r : Rw} {Ms : List (List Rw)}
theorem lays_small (yp : YP n ts rs) (hl : r.length = n) (n5 : n ≤ 5) (h0 : ∀ z ∈ r, 0 ≤ z ∧ z ≤ 100) (h : Paired SortedOf Ms ((List.range (d + 1)).map (Ly (stepsV ts rs) r))) : ∀ M ∈ Ms, M.length ≤ 120 ∧ ∀ x ∈ M, SmallR x := fun M hM => by
  obtain ⟨j, hj⟩ := List.mem_iff_getElem?.mp hM
  obtain ⟨L, eL, sM⟩ := par_get h hj
  obtain ⟨i, _, rfl⟩ := List.mem_map.mp (List.mem_of_getElem? eL)
  refine ⟨by rw [sM.perm.length_eq]; exact ly120 yp hl n5 i, fun x hx => ?_⟩
  have p := ly_perm yp hl i x (sM.perm.mem_iff.mp hx)
  exact ⟨by rw [p.length_eq]; omega, fun z hz => h0 z (p.mem_iff.mp hz)⟩
end
end Y
set_option Elab.async false
set_option linter.all false
set_option maxRecDepth 100000
set_option maxHeartbeats 4000000
namespace Y
open PySem L2
/-! ### the yard turned about: mathematics -/
def sw (t : Int × Int) : Int × Int := (t.2, t.1)
def revR (r : List Int) : List Int := r.take 1 ++ (r.drop 1).reverse
theorem revR_cons (a : Int) (t : List Int) : revR (a :: t) = a :: t.reverse := rfl
theorem revR_revR (r : List Int) : revR (revR r) = r := by
  cases r with
  | nil => rfl
  | cons a t => rw [revR_cons, revR_cons, List.reverse_reverse]
theorem revR_perm (r : List Int) : (revR r).Perm r := by
  cases r with
  | nil => exact .refl _
  | cons a t => rw [revR_cons]; exact (List.reverse_perm t).cons a
theorem revR_len (r : List Int) : (revR r).length = r.length := (revR_perm r).length_eq
theorem revR_ok {n : Nat} {r : List Int} (h : RingOk n r) : RingOk n (revR r) := by
  obtain ⟨h1, h2, h3, h4⟩ := h
  refine ⟨(revR_perm r).nodup_iff.mpr h1, fun x hx => h2 x ((revR_perm r).mem_iff.mp hx), ?_, ?_⟩ <;> rw [revR_len] <;> assumption
theorem revR_get {r : List Int} {i : Nat} (hi : i < r.length) : (revR r).getD i 0 = r.getD ((r.length - i) % r.length) 0 := by
  cases r with
  | nil => cases hi
  | cons a t =>
    have hi : i < t.length + 1 := hi
    rw [revR_cons]
    cases i with
    | zero =>
      show a = (a :: t).getD (((t.length + 1) - 0) % (t.length + 1)) 0
      rw [Nat.sub_zero, Nat.mod_self]
      rfl
    | succ i =>
      have e : ((a :: t).length - (i + 1)) % (a :: t).length = (t.length - 1 - i) + 1 := by
        show (t.length + 1 - (i + 1)) % (t.length + 1) = _
        rw [Nat.mod_eq_of_lt (by omega)]
        omega
      rw [e]
      show t.reverse.getD i 0 = t.getD (t.length - 1 - i) 0
      rw [List.getD_eq_getElem?_getD, List.getD_eq_getElem?_getD, List.getElem?_reverse (by omega)]
theorem revR_pl {r : List Int} {j : Nat} (hj : j < r.length) : pl r j = pl (revR r) ((r.length - j) % r.length) := by
  have h := revR_get (r := revR r) (i := j) (by rw [revR_len]; exact hj)
  rw [revR_revR, revR_len] at h
  unfold pl
  rw [h]
theorem back_mod {L i : Nat} (h3 : 3 ≤ L) (hi : i < L) : ((L - (i + (L - 1)) % L) % L + (L - 1)) % L = (L - i) % L := by
  have e0 : ∀ k, k < L → k % L = k := fun k hk => Nat.mod_eq_of_lt hk
  by_cases c : i = 0
  · subst c
    rw [e0 (0 + (L - 1)) (by omega), show L - (0 + (L - 1)) = 1 by omega, e0 1 (by omega), show 1 + (L - 1) = L by omega, Nat.sub_zero]
  · have e1 : (i + (L - 1)) % L = i - 1 := by rw [show i + (L - 1) = (i - 1) + L by omega, Nat.add_mod_right, e0 _ (by omega)]
    rw [e1]
    by_cases c1 : i = 1
    · subst c1
      rw [show L - (1 - 1) = L by omega, Nat.mod_self, Nat.zero_add]
    · rw [e0 (L - (i - 1)) (by omega), show L - (i - 1) + (L - 1) = (L - i) + L by omega, Nat.add_mod_right]
theorem turn_back {n : Nat} {r x : List Int} (ok : RingOk n r) (hx : x.length = n) : turn1 r (turn1 (revR r) x) = x := by
  have ok' := revR_ok ok
  have h3 := ok.2.2.1
  have hy : (turn1 (revR r) x).length = n := by rw [turn1_len, hx]
  refine List.ext_getElem? fun p => ?_
  by_cases hp : p < x.length
  · have hp' : p < (turn1 r (turn1 (revR r) x)).length := by rw [turn1_len, turn1_len]; exact hp
    have g : (turn1 r (turn1 (revR r) x)).getD p 0 = x.getD p 0 := by
      by_cases c : ∃ i, i < r.length ∧ pl r i = p
      · obtain ⟨i, hi, rfl⟩ := c
        rw [turn1_ring ok hy hi, revR_pl (Nat.mod_lt _ (by omega))]
        have hm : (r.length - (i + (r.length - 1)) % r.length) % r.length < (revR r).length := by rw [revR_len]; exact Nat.mod_lt _ (by omega)
        rw [turn1_ring ok' hx hm, revR_len, back_mod h3 hi, ← revR_pl hi]
      · rw [turn1_off ok hy fun i hi z => c ⟨i, hi, z⟩]
        refine turn1_off ok' hx fun i hi z => c ?_
        rw [revR_len] at hi
        have e := revR_get (r := r) hi
        refine ⟨(r.length - i) % r.length, Nat.mod_lt _ (by omega), ?_⟩
        rw [← z]
        unfold pl
        rw [e]
    rw [List.getD_eq_getElem?_getD, List.getD_eq_getElem?_getD, List.getElem?_eq_getElem hp', List.getElem?_eq_getElem hp] at g
    rw [List.getElem?_eq_getElem hp', List.getElem?_eq_getElem hp]
    exact congrArg some g
  · rw [List.getElem?_eq_none (by rw [turn1_len, turn1_len]; omega), List.getElem?_eq_none (by omega)]
/-- ties of one and the same set, in order, are the same -/
theorem TiesOk.uniq {n : Nat} {ts us : List (Int × Int)} (h64 : n ≤ 60) (h1 : TiesOk n ts) (h2 : TiesOk n us) (p : ts.Perm us) : ts = us := by
  have e := ties_uniq (A := ts.map row2) h64 (p.map row2) h2 (by rw [List.pairwise_map]; exact h1.2.2)
  have inj : ∀ {a b : List (Int × Int)}, a.map row2 = b.map row2 → a = b := by
    intro a
    induction a with
    | nil => intro b h; cases b with | nil => rfl | cons _ _ => cases h
    | cons t a ih =>
      intro b h
      cases b with
      | nil => cases h
      | cons u b =>
        injection h with h1 h2
        rw [ih h2]
        unfold row2 at h1
        injection h1 with h3 h4
        injection h4 with h4 _
        rw [show t = u from Prod.ext h3 h4]
  exact inj e
/-- (ts', rs') are the ties and rings of the yard turned about -/
structure Trn (n : Nat) (ts : List (Int × Int)) (rs : List (List Int)) (ts' : List (Int × Int)) (rs' : List (List Int)) : Prop where
  n60 : n ≤ 60
  ok : TiesOk n ts
  ok' : TiesOk n ts'
  p : (ts.map sw).Perm ts'
  rok : ∀ r ∈ rs, RingOk n r
  r : rs' = rs.map revR
section
variable {n : Nat} {ts ts' : List (Int × Int)} {rs rs' : List (List Int)}
theorem sw_map (ts : List (Int × Int)) : (ts.map sw).map sw = ts := by
  rw [List.map_map]
  exact List.map_id _
theorem Trn.rok' (T : Trn n ts rs ts' rs') : ∀ r ∈ rs', RingOk n r := fun r hr => by
  rw [T.r] at hr
  obtain ⟨q, hq, rfl⟩ := List.mem_map.mp hr
  exact revR_ok (T.rok q hq)
theorem Trn.symm (T : Trn n ts rs ts' rs') : Trn n ts' rs' ts rs := by
  refine ⟨T.n60, T.ok', T.ok, ?_, T.rok', ?_⟩
  · have := (T.p.map sw).symm
    rwa [sw_map] at this
  · rw [T.r, List.map_map]
    exact (List.map_id' _).symm.trans (List.map_congr_left fun r _ => (revR_revR r).symm)
theorem Trn.uniq {ts2 : List (Int × Int)} {rs2 : List (List Int)} (T : Trn n ts rs ts' rs') (T2 : Trn n ts rs ts2 rs2) : ts' = ts2 ∧ rs' = rs2 :=
  ⟨T.ok'.uniq T.n60 T2.ok' (T.p.symm.trans T2.p), by rw [T.r, T2.r]⟩
theorem Trn.mem (T : Trn n ts rs ts' rs') {t : Int × Int} (h : t ∈ ts') : sw t ∈ ts := by
  have h := T.p.mem_iff.mpr h
  obtain ⟨u, hu, rfl⟩ := List.mem_map.mp h
  exact hu
/-- the move taken back in the yard turned about -/
def bk : Mv → Mv
  | .slide a b => .slide b a
  | .turn k => .turn k
theorem bk_bk (m : Mv) : bk (bk m) = m := by cases m <;> rfl
theorem gAt_set_eq {st : List Int} {a : Int} {v : Int} (h0 : 0 ≤ a) (h : a < st.length) : gAt (st.set a.toNat v) a = v := getD_set_eq (by omega)
theorem gAt_set_ne {st : List Int} {a b : Int} {v : Int} (h0 : 0 ≤ a) (h1 : 0 ≤ b) (h : a ≠ b) : gAt (st.set a.toNat v) b = gAt st b := getD_set_ne (by omega)
theorem set_set_comm {st : List Int} {i j : Nat} {u v : Int} (h : i ≠ j) : (st.set i u).set j v = (st.set j v).set i u := List.set_comm _ _ h
theorem set_get {st : List Int} {a : Int} (h0 : 0 ≤ a) (h : a < st.length) : st.set a.toNat (gAt st a) = st := by
  refine List.ext_getElem? fun i => ?_
  rw [List.getElem?_set]
  split
  · rename_i e
    subst e
    have hl : a.toNat < st.length := by omega
    rw [if_pos hl]
    unfold gAt
    rw [List.getD_eq_getElem?_getD, List.getElem?_eq_getElem hl]
    rfl
  · rfl
theorem step_bk (T : Trn n ts rs ts' rs') {x : List Int} (hx : x.length = n) {m : Mv} (h : m ∈ movesOf ts' rs' x) : bk m ∈ movesOf ts rs (stepMv rs' x m) ∧ stepMv rs (stepMv rs' x m) (bk m) = x := by
  unfold movesOf at h ⊢
  rcases List.mem_append.mp h with h | h
  · obtain ⟨t, ht, rfl⟩ := List.mem_map.mp h
    obtain ⟨h1, h2⟩ := List.mem_filter.mp ht
    obtain ⟨a0, a1, b0, b1, ne⟩ := T.ok'.2.1 _ h1
    unfold canSlide at h2
    rw [Bool.and_eq_true, decide_eq_true_iff, decide_eq_true_iff] at h2
    obtain ⟨c1, c2⟩ := h2
    obtain ⟨a, b⟩ := t
    have h1 : (a, b) ∈ ts' := h1
    have a0 : 0 ≤ a := a0
    have a1 : a < n := a1
    have b0 : 0 ≤ b := b0
    have b1 : b < n := b1
    have ne : a ≠ b := ne
    have c1 : 0 < gAt x a := c1
    have c2 : gAt x b = 0 := c2
    have m1 : (b, a) ∈ ts := T.mem h1
    have y1 : stepMv rs' x (slideOf (a, b)) = (x.set a.toNat 0).set b.toNat (gAt x a) := rfl
    have gb : gAt ((x.set a.toNat 0).set b.toNat (gAt x a)) b = gAt x a := gAt_set_eq b0 (by rw [List.length_set, hx]; exact b1)
    have ga : gAt ((x.set a.toNat 0).set b.toNat (gAt x a)) a = 0 := by
      rw [gAt_set_ne b0 a0 (Ne.symm ne)]
      exact gAt_set_eq a0 (by rw [hx]; exact a1)
    rw [y1]
    refine ⟨List.mem_append_left _ (List.mem_map.mpr ⟨(b, a), List.mem_filter.mpr ⟨m1, ?_⟩, rfl⟩), ?_⟩
    · unfold canSlide
      show (decide (0 < gAt _ b) && decide (gAt _ a = 0)) = true
      rw [gb, ga, decide_eq_true c1]
      rfl
    · show ((((x.set a.toNat 0).set b.toNat (gAt x a)).set b.toNat 0).set a.toNat (gAt ((x.set a.toNat 0).set b.toNat (gAt x a)) b)) = x
      rw [gb, List.set_set, set_set_comm (show b.toNat ≠ a.toNat by omega), List.set_set]
      rw [show x.set a.toNat (gAt x a) = x from set_get a0 (by rw [hx]; exact a1)]
      rw [← c2]
      exact set_get b0 (by rw [hx]; exact b1)
  · obtain ⟨k, hk, rfl⟩ := List.mem_map.mp h
    have hk := List.mem_range.mp hk
    have hl : rs'.length = rs.length := by rw [T.r, List.length_map]
    refine ⟨List.mem_append_right _ (List.mem_map.mpr ⟨k, List.mem_range.mpr (by omega), rfl⟩), ?_⟩
    have hk2 : k < rs.length := by omega
    have e1 : rs.getD k [] = rs[k] := by rw [List.getD_eq_getElem?_getD, List.getElem?_eq_getElem hk2]; rfl
    have e2 : rs'.getD k [] = revR rs[k] := by
      rw [T.r, List.getD_eq_getElem?_getD, List.getElem?_map, List.getElem?_eq_getElem hk2]
      rfl
    show turn1 (rs.getD (k : Int).toNat []) (turn1 (rs'.getD (k : Int).toNat []) x) = x
    rw [Int.toNat_natCast, e1, e2]
    exact turn_back (T.rok _ (List.getElem_mem hk2)) hx
theorem mem_steps {x y : Rw} {m : Mv} : (m, y) ∈ stepsV ts rs x ↔ m ∈ movesOf ts rs x ∧ y = stepMv rs x m := by
  unfold stepsV
  constructor
  · intro h
    obtain ⟨m', hm, e⟩ := List.mem_map.mp h
    cases e
    exact ⟨hm, rfl⟩
  · rintro ⟨h, rfl⟩
    exact List.mem_map.mpr ⟨m, h, rfl⟩
theorem steps_bk1 (T : Trn n ts rs ts' rs') {x y : Rw} (hx : x.length = n) {m : Mv} (h : (m, y) ∈ stepsV ts' rs' x) : (bk m, x) ∈ stepsV ts rs y := by
  obtain ⟨h1, rfl⟩ := mem_steps.mp h
  obtain ⟨h2, h3⟩ := step_bk T hx h1
  exact mem_steps.mpr ⟨h2, h3.symm⟩
theorem steps_bk (T : Trn n ts rs ts' rs') {x y : Rw} (hx : x.length = n) (hy : y.length = n) {m : Mv} : (m, y) ∈ stepsV ts' rs' x ↔ (bk m, x) ∈ stepsV ts rs y := by
  refine ⟨steps_bk1 T hx, fun h => ?_⟩
  have := steps_bk1 T.symm hy h
  rwa [bk_bk] at this
theorem steps_nodup (ok : ts.Nodup) (x : Rw) : (stepsV ts rs x).Nodup := by
  unfold stepsV
  have h1 : (movesOf ts rs x).Nodup := by
    unfold movesOf
    refine List.nodup_append.mpr ⟨?_, ?_, ?_⟩
    · refine List.Pairwise.map _ (fun a b n z => n ?_) (ok.filter _)
      unfold slideOf at z
      injection z with z1 z2
      exact Prod.ext z1 z2
    · unfold turns
      refine List.Pairwise.map _ (fun a b n z => n ?_) List.nodup_range
      injection z with z
      omega
    · intro a ha b hb e
      obtain ⟨t, _, rfl⟩ := List.mem_map.mp ha
      obtain ⟨k, _, rfl⟩ := List.mem_map.mp hb
      cases e
  exact List.Pairwise.map _ (fun a b n z => n (by injection z)) h1
end
end Y
set_option Elab.async false
set_option linter.all false
set_option maxRecDepth 100000
set_option maxHeartbeats 4000000
namespace Y
open PySem L2
/-! ### ways there and ways back -/
theorem edgesR_nodup {T : StF} {r : Rw} (h : (T r).Nodup) : (edgesR T r).Nodup := by
  unfold edgesR
  exact List.Pairwise.map _ (fun a b n z => n (by injection z with _ z)) h
theorem edges_nodup {T : StF} (h : ∀ r, (T r).Nodup) : ∀ {L : List Rw}, L.Nodup → (edges T L).Nodup
  | [], _ => List.nodup_nil
  | r :: L, nd => by
    have n1 := List.nodup_cons.mp nd
    show (edgesR T r ++ edges T L).Nodup
    refine List.nodup_append.mpr ⟨edgesR_nodup (h r), edges_nodup h n1.2, fun a ha b hb e => ?_⟩
    subst e
    obtain ⟨s, _, rfl⟩ := List.mem_map.mp ha
    exact n1.1 (mem_edges.mp hb).1
theorem mem_into {es : List Ed} {x : Rw} {p : Pr} : p ∈ into es x ↔ (p.1, p.2, x) ∈ es := by
  constructor
  · intro h
    obtain ⟨e, he, e1, e2, e3⟩ := into_mem h
    rw [← e1, ← e2, ← e3]
    exact he
  · intro h
    exact List.mem_map.mpr ⟨_, List.mem_filter.mpr ⟨h, decide_eq_true rfl⟩, rfl⟩
theorem into_nodup {es : List Ed} {x : Rw} (h : es.Nodup) : (into es x).Nodup := by
  have h := h.filter fun e => decide (e.2.2 = x)
  unfold into
  show List.Pairwise _ _
  rw [List.pairwise_map]
  refine List.Pairwise.imp_of_mem (fun {a b} ha hb ne z => ne ?_) h
  have e1 := of_decide_eq_true (List.mem_filter.mp ha).2
  have e2 := of_decide_eq_true (List.mem_filter.mp hb).2
  injection z with z1 z2
  exact Prod.ext z1 (Prod.ext z2 (by rw [e1, e2]))
theorem sum_perm {l m : List Int} (h : l.Perm m) : l.sum = m.sum := by
  induction h with
  | nil => rfl
  | cons a _ ih => rw [List.sum_cons, List.sum_cons, ih]
  | swap a b l => rw [List.sum_cons, List.sum_cons, List.sum_cons, List.sum_cons]; omega
  | trans _ _ h1 h2 => rw [h1, h2]
theorem sum_ge {l : List Int} (h : ∀ z ∈ l, 0 ≤ z) : 0 ≤ l.sum := by
  induction l with
  | nil => exact Int.le_refl 0
  | cons a l ih =>
    rw [List.sum_cons]
    have := h a List.mem_cons_self
    have := ih fun z hz => h z (List.mem_cons_of_mem _ hz)
    omega
theorem sum_mem {l : List Int} (h : ∀ z ∈ l, 0 ≤ z) {x : Int} (hx : x ∈ l) : x ≤ l.sum := by
  induction l with
  | nil => cases hx
  | cons a l ih =>
    rw [List.sum_cons]
    have h1 := h a List.mem_cons_self
    have h2 := sum_ge (l := l) fun z hz => h z (List.mem_cons_of_mem _ hz)
    rcases List.mem_cons.mp hx with rfl | hx
    · omega
    · have := ih (fun z hz => h z (List.mem_cons_of_mem _ hz)) hx
      omega
section
variable {T : StF} {r : Rw}
theorem cnt_pos : ∀ {k : Nat} {x : Rw}, x ∈ Ly T r k → 1 ≤ cnt T r k x
  | 0, _, _ => Int.le_refl 1
  | k + 1, x, h => by
    obtain ⟨p, l, e, hp, _⟩ := into_ne h
    have hmem : p ∈ into (edges T (Ly T r k)) x := by rw [e]; exact List.mem_cons_self
    have all : ∀ q ∈ into (edges T (Ly T r k)) x, 1 ≤ cnt T r k q.1 := fun q hq => cnt_pos (mem_edges.mp (mem_into.mp hq)).1
    show 1 ≤ ((into (edges T (Ly T r k)) x).map fun p => cnt T r k p.1).sum
    have := sum_mem (l := (into (edges T (Ly T r k)) x).map fun p => cnt T r k p.1) (fun z hz => by
      obtain ⟨q, hq, rfl⟩ := List.mem_map.mp hz
      exact Int.le_trans (by decide) (all q hq)) (List.mem_map.mpr ⟨p, hmem, rfl⟩)
    exact Int.le_trans (all p hmem) this
theorem cnt_pred {k : Nat} {x u : Rw} {m : Mv} (h1 : cnt T r (k + 1) x = 1) (hu : u ∈ Ly T r k) (hm : (m, x) ∈ T u) : cnt T r k u = 1 := by
  have hmem : (u, m) ∈ into (edges T (Ly T r k)) x := mem_into.mpr (mem_edges.mpr ⟨hu, hm⟩)
  have all : ∀ q ∈ into (edges T (Ly T r k)) x, 1 ≤ cnt T r k q.1 := fun q hq => cnt_pos (mem_edges.mp (mem_into.mp hq)).1
  have h2 := sum_mem (l := (into (edges T (Ly T r k)) x).map fun p => cnt T r k p.1) (fun z hz => by
      obtain ⟨q, hq, rfl⟩ := List.mem_map.mp hz
      exact Int.le_trans (by decide) (all q hq)) (List.mem_map.mpr ⟨(u, m), hmem, rfl⟩)
  have h3 : ((into (edges T (Ly T r k)) x).map fun p => cnt T r k p.1).sum = 1 := h1
  rw [h3] at h2
  have h4 := cnt_pos hu
  have h2 : cnt T r k u ≤ 1 := h2
  omega
/-- a row of moves that is right: at each stand there is but one way -/
def RightR (S T : StF) (r : Rw) : Nat → Rw → List Mv → Prop
  | 0, q, ms => ms = [] ∧ q = r
  | _ + 1, _, [] => False
  | k + 1, q, m :: ms => q ∈ Ly T r (k + 1) ∧ cnt T r (k + 1) q = 1 ∧ ∃ p, (m, p) ∈ S q ∧ RightR S T r k p ms
theorem RightR.len {S : StF} : ∀ {k : Nat} {q : Rw} {ms : List Mv}, RightR S T r k q ms → ms.length = k
  | 0, _, _, h => by rw [h.1]; rfl
  | k + 1, _, [], h => h.elim
  | k + 1, _, m :: ms, ⟨_, _, p, _, h⟩ => by rw [List.length_cons, h.len]
end
section
variable {n : Nat} {ts ts' : List (Int × Int)} {rs rs' : List (List Int)}
theorem Trn.steps_ok (T : Trn n ts rs ts' rs') (x : Rw) : (stepsV ts' rs' x).Nodup := steps_nodup T.ok'.1 x
theorem pre_perm (T : Trn n ts rs ts' rs') {L : List Rw} {x : Rw} (nd : L.Nodup) (hL : ∀ r ∈ L, r.length = n) (hx : x.length = n) :
    (into (edges (stepsV ts' rs') L) x).Perm (((stepsV ts rs x).filter fun s => decide (s.2 ∈ L)).map fun s => (s.2, bk s.1)) := by
  refine (List.perm_ext_iff_of_nodup (into_nodup (edges_nodup T.steps_ok nd)) ?_).mpr fun p => ?_
  · have h := ((steps_nodup (rs := rs) T.ok.1 x).filter fun s => decide (s.2 ∈ L))
    refine List.Pairwise.map _ (fun a b ne z => ne ?_) h
    injection z with z1 z2
    exact Prod.ext (by rw [← bk_bk a.1, z2, bk_bk]) z1
  · rw [mem_into, mem_edges, List.mem_map]
    constructor
    · rintro ⟨h1, h2⟩
      have h1 : p.1 ∈ L := h1
      exact ⟨(bk p.2, p.1), List.mem_filter.mpr ⟨(steps_bk T (hL _ h1) hx).mp h2, decide_eq_true h1⟩, by rw [bk_bk]⟩
    · rintro ⟨s, hs, rfl⟩
      obtain ⟨h1, h2⟩ := List.mem_filter.mp hs
      have h2 := of_decide_eq_true h2
      exact ⟨h2, (steps_bk T (hL _ h2) hx).mpr (by rw [bk_bk]; exact h1)⟩
/-- how many ways lead to the goal: by the steps of the yard itself -/
theorem cnt_step (T : Trn n ts rs ts' rs') {r : Rw} (yp : YP n ts' rs') (hr : r.length = n) {k : Nat} {x : Rw} (hx : x.length = n) :
    cnt (stepsV ts' rs') r (k + 1) x = ((((stepsV ts rs x).map fun s => s.2).filter fun y => decide (y ∈ Ly (stepsV ts' rs') r k)).map fun y => cnt (stepsV ts' rs') r k y).sum := by
  have hp := pre_perm T (L := Ly (stepsV ts' rs') r k) (Ly_nodup k) (fun y hy => by rw [(ly_perm yp hr k y hy).length_eq, hr]) hx
  show ((into (edges (stepsV ts' rs') (Ly (stepsV ts' rs') r k)) x).map fun p => cnt (stepsV ts' rs') r k p.1).sum = _
  rw [sum_perm (hp.map fun p => cnt (stepsV ts' rs') r k p.1), List.map_map, List.filter_map, List.map_map]
  rfl
theorem right_of (T : Trn n ts rs ts' rs') {r : Rw} (yp : YP n ts' rs') (hr : r.length = n) : ∀ {k : Nat} {q : Rw} {ms : List Mv}, q ∈ Ly (stepsV ts' rs') r k → cnt (stepsV ts' rs') r k q = 1 → ChainP (stepsV ts' rs') r k q ms r → ms.length = k → RightR (stepsV ts rs) (stepsV ts' rs') r k q (ms.map bk)
  | 0, q, ms, hq, hc, h, hl => ⟨by rw [List.length_eq_zero_iff.mp hl]; rfl, List.mem_singleton.mp hq⟩
  | k + 1, q, [], hq, hc, h, hl => by cases hl
  | k + 1, q, m :: ms, hq, hc, ⟨u, h1, h2, h3⟩, hl => by
    have hu : u.length = n := by rw [(ly_perm yp hr k u h1).length_eq, hr]
    exact ⟨hq, hc, u, steps_bk1 T hu h2, right_of T yp hr h1 (cnt_pred hc h1 h2) h3 (by rw [List.length_cons] at hl; omega)⟩
end
end Y
set_option Elab.async false
set_option linter.all false
set_option maxRecDepth 100000
set_option maxHeartbeats 4000000
namespace Y
open PySem L2
/-! ### turned_about -/
abbrev sTa : Stmt := top 28
abbrev NTa : List Str := ["yard", "ties", "a", "b", "ring"]
theorem sort_ties {n : Nat} {ks : List (Int × Int)} (nd : ks.Nodup) (ok : ∀ t ∈ ks, TieOk n t) : ∃ ts, ks.Perm ts ∧ TiesOk n ts := by
  let le : Int × Int → Int × Int → Bool := fun a b => decide (TS.code 64 [a.1, a.2] ≤ TS.code 64 [b.1, b.2])
  have pm := List.mergeSort_perm ks le
  refine ⟨ks.mergeSort le, pm.symm, pm.nodup_iff.mpr nd, fun t ht => ok t (pm.mem_iff.mp ht), ?_⟩
  refine List.Pairwise.imp (fun {a b} h => of_decide_eq_true h) (List.pairwise_mergeSort (le := le) (fun a b c h1 h2 => ?_) (fun a b => ?_) ks)
  · exact decide_eq_true (Int.le_trans (of_decide_eq_true h1) (of_decide_eq_true h2))
  · show (decide _ || decide _) = true
    rw [Bool.or_eq_true, decide_eq_true_iff, decide_eq_true_iff]
    omega
theorem trn_of {n : Nat} {ts : List (Int × Int)} {rs : List (List Int)} (h60 : n ≤ 60) (ok : TiesOk n ts) (rok : ∀ r ∈ rs, RingOk n r) : ∃ ts', Trn n ts rs ts' (rs.map revR) := by
  have nd : (ts.map sw).Nodup := List.Pairwise.map _ (fun a b n z => n (by injection z with z1 z2; exact Prod.ext z2 z1)) ok.1
  obtain ⟨ts', p, ok'⟩ := sort_ties (n := n) nd fun t ht => by
    obtain ⟨u, hu, rfl⟩ := List.mem_map.mp ht
    obtain ⟨a0, a1, b0, b1, ne⟩ := ok.2.1 u hu
    exact ⟨b0, b1, a0, a1, Ne.symm ne⟩
  exact ⟨ts', h60, ok, ok', p, rok, rfl⟩
theorem Trn.len {n : Nat} {ts ts' : List (Int × Int)} {rs rs' : List (List Int)} (T : Trn n ts rs ts' rs') : ts'.length = ts.length := by rw [← T.p.length_eq, List.length_map]
theorem Trn.ydok {n : Nat} {ts ts' : List (Int × Int)} {rs rs' : List (List Int)} (T : Trn n ts rs ts' rs') (h : YdOk n ts rs) : YdOk n ts' rs' :=
  ⟨h.1, h.2.1, T.ok', by rw [T.len]; exact h.2.2.2.1, T.rok', by rw [T.r, List.length_map]; exact h.2.2.2.2.2⟩
theorem rev_ring (r : List Int) : cutV (r.map V.int) none (some 1) ++ ((r.map V.int).drop (HT.rvN (some 0))).reverse = (revR r).map V.int := by
  rw [cut_t1]
  unfold revR
  rw [List.map_append, List.map_reverse, List.map_take, List.map_drop]
  rfl
theorem rev_ring2 (r : List Int) : cutV (r.map V.int) none (some 1) ++ ((cutV (r.map V.int) (some 1) none).drop (HT.rvN none)).reverse = (revR r).map V.int := by
  rw [cut_t1, cut_d1]
  unfold revR
  rw [List.map_append, List.map_reverse, List.map_take, List.map_drop]
  rfl
def spTa (K : PySem.W.Frag) (C : Addr) : Sp := fun vs H Q _ => ∃ (x : Addr) (n : Nat) (ts : List (Int × Int)) (rs : List (List Int)), vs = [.ref x] ∧ YObjC K H C x n ts rs ∧ YdOk n ts rs ∧
  ∀ x' ts' rs' H', YObjC K H' C x' n ts' rs' → Trn n ts rs ts' rs' → Same H H' → Q (.ref x') H'
section
variable {P : Program} {w : World} {K : PySem.W.Frag} {mg : Str → Option Value} {base : Heap} {fInt fRow fUn fCnt fCT fCR : Addr}
theorem scTa : FnScope NTa ["yard"] (defScope sTa) := ⟨rfl, rfl, rfl, by decide +kernel, rfl, by decide +kernel, by decide +kernel⟩
theorem ok_ta {f C fI : Addr} {fd fdI : FuncData} (F : Fun K "turned_about" "turned_about" sTa f fd) (T : TYd K mg C fInt fRow fUn fCnt fCT fCR) (M : Mk K C fI)
    (GY : FnOk P w K mg base CX0 5 fI fdI ["self", "places", "ties", "rings"] (spYInit K)) (bY : Binds K fdI ["self", "places", "ties", "rings"] []) :
    FnOk P w K mg base CX0 7 f fd ["yard"] (spTa K C) := by
  refine F.ok scTa (fun vs H Q E h => ?_) (fun cdv A outer s H vs Q E hr h => ?_)
  · obtain ⟨x, n, ts, rs, rfl, _⟩ := h
    rfl
  · obtain ⟨x, n, ts, rs, rfl, hy, yok, k⟩ := h
    obtain ⟨n1, n12, tok, tl, rok, rl⟩ := id yok
    obtain ⟨dx, a, e, fs, ys, zs, hx, yc, lp, lt, lr, ha, pa, he, pe⟩ := id hy
    obtain ⟨ts', trn⟩ := trn_of (rs := rs) (by omega : n ≤ 60) tok rok
    refine ⟨_, pss_cons (ps_setLc (own := [("a", 2), ("b", 3)]) (i := 1) (g := gTup K 2 (gCons (gName 2) (gCons (gName 3) gNil))) (tt := tYes) rfl scTa.nd rfl rfl (sw_true rfl rfl rfl (by decide +kernel)) (pi_tup (pe_fld (pv 0) rfl)) (blkOk_by (N := NTa) (sc := defScope sTa) (by decide +kernel))
        (fun _ _ _ _ _ => pgT (K := K) (n := 2) rfl rfl (pgs_cons (pg_name (i := 2) scTa.nd rfl (Or.inl rfl)) (pgs_cons (pg_name (i := 3) scTa.nd rfl (Or.inl rfl)) pgs_nil)) rfl rfl)
        (fun _ _ _ _ _ => pts_nil) (fun _ _ _ _ _ => pe_tup (pa_cons (pv 3) (pa_cons (pv 2) pa_nil))))
      (pss_one (ps_ret (pe_make M GY hr (by rfl) T.gYard bY .nil pass0 (pa_cons (pe_fld (pv 0) rfl) (pa_cons (pv 1) (pa_cons
        (pe_lc (own := [("ring", 4)]) (g := gName 4) (tt := tYes) rfl scTa.nd (pi_tup (pe_fld (pv 0) rfl)) (blkOk_by (N := NTa) (sc := defScope sTa) (by decide +kernel))
          (fun _ _ _ _ _ => pg_name (i := 4) scTa.nd rfl (Or.inl rfl)) (fun _ _ _ _ _ => pts_nil)
          (fun _ _ _ _ _ => pe_op (op_catUK (K := K) rfl) (pe_slice (sl_tupUK (K := K) rfl) (pv 4) po_none (po_some pe_int))
            (pe_revU (K := K) rfl (pv 4) (po_some pe_int) (mono := fun σ H Q Q' f h => let ⟨i, e, h⟩ := h; ⟨i, e, f _ _ h⟩) (monoE := fun σ H Q Q' f h => let ⟨v, e, h⟩ := h; ⟨v, e, f _ _ h⟩)))) pa_nil)))))), ?_⟩
    refine ⟨_, rfl, x, C, dx, fs, _, rfl, hx, yc.c, yc.t, lt, a, rfl, ⟨_, ha⟩, fun D nD => ?_⟩
    have lys := ties_len pa
    refine lc_tup (K := K) (a := a) (xs := ys) (fun i H' => ∃ ws, H' D = some (.lst ws) ∧ Paired (TieAt K H') ws ((ts.take i).map sw) ∧ ws.length = i ∧ Same H H') ⟨[], upd_same, .nil, rfl, Same.new nD⟩ (fun i H' _ ⟨_, _, _, _, s⟩ => Same.seqT s ha) (fun i v H1 hv h => ?_) (fun H1 h => ?_)
    · obtain ⟨ws, eD, pw, lw, s1⟩ := h
      obtain ⟨t, et, b, rfl, hb⟩ := ties_get pa hv
      refine ⟨b, _, rfl, Same.seqT s1 hb, rfl, _, _, rfl, _, _, rfl, rfl, rfl, yes_if ?_⟩
      refine ⟨_, rfl, _, rfl, (by show 2 ≤ sizeLine; decide), fun m nm => ?_⟩
      have e1 := Same.new nm (o := .tup [.int t.2, .int t.1]) _ _ eD
      have s2 := Same.new nm (o := .tup [.int t.2, .int t.1])
      have hi := (List.getElem?_eq_some_iff.mp hv).1
      refine ⟨ws, e1, Nat.lt_of_le_of_lt (by omega : ws.length ≤ 60) (by decide), ws ++ [V.ref m], upd_same, ?_, by rw [List.length_append, lw]; rfl, Same.upd_new (s1.trans s2) nD⟩
      rw [take_next et, List.map_append]
      refine par_snoc (par_map (fun y m' h => ?_) pw) ⟨m, rfl, seqT_off (SqT.of upd_same) e1⟩
      obtain ⟨b', e', h⟩ := h
      exact ⟨b', e', seqT_off (Same.seqT s2 h) e1⟩
    · obtain ⟨ws, eD, pw, lw, s1⟩ := h
      rw [lys, List.take_length] at pw
      refine gset_go (σ' := [some (.ref x), some (.ref D), none, none, none]) rfl ?_
      dsimp only
      refine ⟨_, rfl, x, C, dx, fs, _, rfl, s1 _ _ hx, yc.c, yc.p, lp, _, rfl, _, rfl, x, C, dx, fs, _, rfl, s1 _ _ hx, yc.c, yc.r, lr, e, rfl, ⟨_, Same.seqT s1 he⟩, fun G nG => ?_⟩
      have lzs : zs.length = rs.length := Paired.length pe
      refine lc_tup (K := K) (a := e) (xs := zs) (fun i H' => ∃ us, H' G = some (.lst us) ∧ Paired (RingAt K H') us ((rs.take i).map revR) ∧ us.length = i ∧ Same H1 H') ⟨[], upd_same, .nil, rfl, Same.new nG⟩ (fun i H' _ ⟨_, _, _, _, s⟩ => Same.seqT (s1.trans s) he) (fun i v H3 hv h => ?_) (fun H3 h => ?_)
      · obtain ⟨us, eG, pu, lu, s3⟩ := h
        obtain ⟨r, er, b, rfl, hb⟩ := par_get pe hv
        have s13 := s1.trans s3
        refine ⟨rfl, yes_if ?_⟩
        refine ⟨_, rfl, 1, rfl, b, _, rfl, Same.seqT s13 hb, fun u1 H4 hu1 s4 => ?_⟩
        refine ⟨_, rfl, 0, rfl, b, _, rfl, Same.seqT (s13.trans s4) hb, .inr rfl, fun u2 H5 hu2 s5 => ?_⟩
        refine ⟨u1, u2, _, _, rfl, rfl, Same.seqT s5 hu1, hu2, ?_, fun u3 H6 hu3 s6 => ?_⟩
        · have l1 := cutV_length (r.map V.int) none (some 1)
          have l2 := (rok r (List.mem_of_getElem? er)).2.2.2
          rw [List.length_map] at l1
          rw [List.length_reverse, List.length_drop, List.length_map]
          exact Nat.le_trans (by omega : _ ≤ 24) (by decide)
        rw [rev_ring] at hu3
        have s36 := (s4.trans s5).trans s6
        have e6 := s36 _ _ eG
        have hi := (List.getElem?_eq_some_iff.mp hv).1
        refine ⟨us, e6, Nat.lt_of_le_of_lt (by omega : us.length ≤ 60) (by decide), us ++ [V.ref u3], upd_same, ?_, by rw [List.length_append, lu]; rfl, Same.upd_new (s3.trans s36) nG⟩
        rw [take_next er, List.map_append]
        refine par_snoc (par_map (fun y m' h => ?_) pu) ⟨u3, rfl, seqT_off hu3 e6⟩
        obtain ⟨b', e', h⟩ := h
        exact ⟨b', e', seqT_off (Same.seqT s36 h) e6⟩
      · obtain ⟨us, eG, pu, lu, s3⟩ := h
        rw [lzs, List.take_length] at pu
        intro x' dx' nx' ndx' ne'
        have sm : Same H3 (upd (upd H3 dx' (.own x')) x' (.ins C dx' [])) := (Same.new ndx').trans (Same.new (by rw [upd_ne (Ne.symm ne')]; exact nx'))
        have pt : Paired (RowAt K (upd (upd H3 dx' (.own x')) x' (.ins C dx' []))) ws ((ts.map sw).map row2) := par_map (fun v r (h : TupI K H1 v r) => let ⟨b, e, h⟩ := h; ⟨b, e, .inr (Same.seqT (s3.trans sm) h)⟩) (par_rows pw)
        have pr : Paired (RowAt K (upd (upd H3 dx' (.own x')) x' (.ins C dx' []))) us (rs.map revR) := par_map (fun v r h => let ⟨b, e, h⟩ := h; ⟨b, e, .inr (Same.seqT sm h)⟩) pu
        have yk' := trn.ydok yok
        refine ⟨x', C, dx', D, G, n, ws, us, ts.map sw, ts', rs.map revR, rfl, yc, upd_same, n1, by omega, .inl (SqL.of (sm _ _ (s3 _ _ eD))), pt, trn.p, trn.ok', yk'.2.2.2.1, .inl (SqL.of (sm _ _ eG)), pr, trn.rok', by rw [List.length_map]; omega, fun H5 yo keep => ⟨rfl, ?_⟩⟩
        exact k x' ts' _ H5 yo trn fun b' o e' => keep b' o (ne_of_none ((s1.trans s3) _ _ e') nx') (sm b' o ((s1.trans s3) b' o e'))
end
end Y
set_option Elab.async false
set_option linter.all false
set_option maxRecDepth 100000
set_option maxHeartbeats 4000000
namespace Y
open PySem L2
/-! ### Yard's own == -/
abbrev sEq : Stmt := inClass (top 14) 1
structure OwnK (K : PySem.W.Frag) (C : Addr) : Prop where
  ha : PySem.W.findIn K (.ref C) "__class__" = some (some (.builtin "object.__class__"))
  hn : PySem.W.specialIn K (.builtin "object.__class__") "__get__" = some (some (.builtin "getset_descriptor.__get__"))
  htk : PySem.W.takesIn K (.builtin "object.__class__") = some true
  hm : PySem.W.mroIn K C (.type "object") = some true
/-- the two tell the same yard -/
def SameY (K : PySem.W.Frag) (C : Addr) : Addr → Addr → Hp → Prop := fun a b H => ∃ n ts rs, YObjC K H C a n ts rs ∧ YObjC K H C b n ts rs
theorem rows_a {K : PySem.W.Frag} {H : Hp} {ys : List V} {ts : List (Int × Int)} (h : Paired (TieAt K H) ys ts) : Paired (RwD.RowA K H) ys (ts.map row2) := par_rows h
section
variable {P : Program} {w : World} {K : PySem.W.Frag} {mg : Str → Option Value} {base : Heap}
theorem scEq : FnScope ["self", "other"] ["self", "other"] (defScope sEq) := ⟨rfl, rfl, rfl, by decide +kernel, rfl, by decide +kernel, by decide +kernel⟩
theorem ok_eq {f C : Addr} {fd : FuncData} (F : Fun K "__eq__" "Yard.__eq__" sEq f fd) (gI : mg "isinstance" = none) (gC : mg "Yard" = some (.ref C)) (O : OwnK K C) (kC : PySem.W.kitOne K (.ref C) (.ref C) = some true) :
    FnOk P w K mg base CX0 1 f fd ["self", "other"] (spEq (SameY K C)) := by
  refine F.ok scEq (fun vs H Q E h => ?_) (fun cdv A outer s H vs Q E hr h => ?_)
  · obtain ⟨a, b, rfl, _⟩ := h
    rfl
  · obtain ⟨a, b, rfl, ⟨n, ts, rs, ⟨dx, aa, ae, fs, ys, zs, hx, yc, lp, lt, lr, ha, pa, he, pe⟩, ⟨dx', ba, be, fs', ys', zs', hx', yc', lp', lt', lr', ha', pa', he', pe'⟩⟩, k⟩ := h
    have hu64 := hr.units
    refine ⟨_, pss_one (ps_ret (pe_and (pe_callB call_isi (by rfl) gI (by decide +kernel) (pa_cons (pv 1) (pa_cons (pgR gC) pa_nil)))
      (pe_and (pe_cmpR op_eq (pe_fld (pv 0) rfl) (pe_fld (pv 1) rfl) (nomark _))
      (pe_and (pe_cmpR (RwD.op_eqRs (K := K) rfl hu64) (pe_fld (pv 0) rfl) (pe_fld (pv 1) rfl) (nomark _))
      (pe_one (pe_cmpR (RwD.op_eqRs (K := K) rfl hu64) (pe_fld (pv 0) rfl) (pe_fld (pv 1) rfl) (nomark _))))))), ?_⟩
    refine ⟨_, rfl, .ref b, .ref C, _, _, true, rfl, ClsV.own _, .base (TyOf.ins hx' yc'.c O.ha O.hn O.htk O.hm), kC, true, rfl, iteT' rfl ?_⟩
    refine ⟨_, rfl, a, C, dx, fs, _, rfl, hx, yc.c, yc.p, lp, _, rfl, b, C, dx', fs', _, rfl, hx', yc'.c, yc'.p, lp', rfl, ?_⟩
    refine ⟨_, rfl, iteT' (decide_eq_true rfl) ?_⟩
    refine ⟨_, rfl, a, C, dx, fs, _, rfl, hx, yc.c, yc.t, lt, _, rfl, b, C, dx', fs', _, rfl, hx', yc'.c, yc'.t, lt', ts.map row2, ts.map row2, ⟨aa, ys, rfl, ha, rows_a pa⟩, ⟨ba, ys', rfl, ha', rows_a pa'⟩, ?_⟩
    refine ⟨_, rfl, iteT' (by rw [decide_eq_true rfl]; rfl) ?_⟩
    refine ⟨_, rfl, a, C, dx, fs, _, rfl, hx, yc.c, yc.r, lr, _, rfl, b, C, dx', fs', _, rfl, hx', yc'.c, yc'.r, lr', rs, rs, ⟨ae, zs, rfl, he, pe⟩, ⟨be, zs', rfl, he', pe'⟩, ?_⟩
    rw [decide_eq_true rfl]
    exact k H Ext.rfl'
end
end Y
set_option Elab.async false
set_option linter.all false
set_option maxRecDepth 100000
set_option maxHeartbeats 4000000
namespace Y
open PySem L2
/-! ### searched_to, clear_rows, clear_stands -/
abbrev sSt : Stmt := top 29
abbrev sCr : Stmt := top 30
abbrev sCs : Stmt := top 31
abbrev NCr : List Str := ["found", "counts", "stand", "layer"]
/-- the stands of a layer from which but one row of moves leads -/
def Clr (T : StF) (r : Rw) (k : Nat) : List Rw := (Ly T r k).filter fun x => decide (cnt T r k x = 1)
theorem mem_clr {T : StF} {r x : Rw} {k : Nat} : x ∈ Clr T r k ↔ x ∈ Ly T r k ∧ cnt T r k x = 1 := by
  unfold Clr
  rw [List.mem_filter, decide_eq_true_iff]
/-- what is asked of a search to a goal -/
def spSt (K : PySem.W.Frag) (C CM : Addr) : Sp := fun vs H Q E => ∃ (x a : Addr) (n d : Nat) (ts ts' : List (Int × Int)) (rs rs' : List (List Int)) (r : Rw) (most : Int), vs = [.ref x, .ref a, .int most] ∧ YObjC K H C x n ts rs ∧ YdOk n ts rs ∧ n ≤ 5 ∧
  (SqL K H a (r.map V.int) ∨ H a = some (.tup (r.map V.int))) ∧ r.length = n ∧ (∀ z ∈ r, 0 ≤ z) ∧ Trn n ts rs ts' rs' ∧ Dep (stepsV ts' rs') r d ∧
  ((((Sn (stepsV ts' rs') r d).length : Int) ≤ most ∧ ∀ f ds H', H' f = some (.lst ds) → Paired (LayD K H') ds ((List.range (d + 1 + 1)).map (pkL (stepsV ts' rs') r)) → Same H H' → Q (.ref f) H') ∨
   (most < ((Sn (stepsV ts' rs') r d).length : Int) ∧ RaisedF CM [("most", .int most)] H E))
def spCr (K : PySem.W.Frag) : Sp := fun vs H Q _ => ∃ (f : Addr) (ds : List V) (S : StF) (r : Rw) (k : Nat), vs = [.ref f] ∧ H f = some (.lst ds) ∧ Paired (LayD K H) ds ((List.range (k + 1 + 1)).map (pkL S r)) ∧ (∀ i, (Sn S r i).length ≤ 3125) ∧ (∀ x, (S x).length ≤ 120) ∧ (∀ i, ∀ x ∈ Sn S r i, x ≠ []) ∧ k ≤ 3126 ∧
  ∀ v Ms H', LayersV H' v Ms → Paired SortedOf Ms ((List.range (k + 1)).map (Clr S r)) → Same H H' → Q v H'
def spCs (K : PySem.W.Frag) (C CM : Addr) : Sp := fun vs H Q E => ∃ (x a : Addr) (n d : Nat) (ts ts' : List (Int × Int)) (rs rs' : List (List Int)) (r : Rw) (most : Int), vs = [.ref x, .ref a, .int most] ∧ YObjC K H C x n ts rs ∧ YdOk n ts rs ∧ n ≤ 5 ∧
  (SqL K H a (r.map V.int) ∨ H a = some (.tup (r.map V.int))) ∧ r.length = n ∧ (∀ z ∈ r, 0 ≤ z) ∧ Trn n ts rs ts' rs' ∧ Dep (stepsV ts' rs') r d ∧
  ((((Sn (stepsV ts' rs') r d).length : Int) ≤ most ∧ ∀ v Ms H', LayersV H' v Ms → Paired SortedOf Ms ((List.range (d + 1)).map (Clr (stepsV ts' rs') r)) → Same H H' → Q v H') ∨
   (most < ((Sn (stepsV ts' rs') r d).length : Int) ∧ RaisedF CM [("most", .int most)] H E))
section
variable {P : Program} {w : World} {K : PySem.W.Frag} {mg : Str → Option Value} {base : Heap} {C CM fTa fSe fCt fSt fCr : Addr}
theorem scSt : FnScope ["yard", "goal", "most"] ["yard", "goal", "most"] (defScope sSt) := ⟨rfl, rfl, rfl, by decide +kernel, rfl, by decide +kernel, by decide +kernel⟩
theorem ok_st {f : Addr} {fd fdS fdT : FuncData} {dsN : List Value} (F : Fun K "searched_to" "searched_to" sSt f fd) (hdN : Vals [V.non] dsN)
    (gS : mg "searched" = some (.ref fSe)) (kS : PySem.W.keepIn K (.ref fSe) = true) (GS : FnOk P w K mg base (L2.CX P w) 8 fSe fdS ["yard", "one", "most", "other"] (spSe K CM)) (bS : Binds K fdS ["yard", "one", "most", "other"] dsN)
    (gT : mg "turned_about" = some (.ref fTa)) (GT : FnOk P w K mg base CX0 7 fTa fdT ["yard"] (spTa K C)) (FT : Fun K "turned_about" "turned_about" sTa fTa fdT) (bT : Binds K fdT ["yard"] []) :
    FnOk P w K mg base (L2.CX P w) 9 f fd ["yard", "goal", "most"] (spSt K C CM) := by
  refine F.okX scSt (fun vs H Q E h => ?_) (fun cdv A outer s H vs Q E hr h => ?_)
  · obtain ⟨x, a, n, d, ts, ts', rs, rs', r, most, rfl, _⟩ := h
    rfl
  · obtain ⟨x, a, n, d, ts, ts', rs, rs', r, most, rfl, hy, yok, n5, ha, hl, p0, trn, dep, fin⟩ := h
    have hr7 : Room 7 _ := hr.mono (by decide)
    refine ⟨_, pss_one (ps_ret (pe_call GS hr (by rfl) gS kS bS hdN (passes_call (takes_of rfl rfl rfl rfl) fun _ _ _ _ h => h) (pa_cons (pe_call GT hr7 (by rfl) gT FT.kp bT .nil pass0 (pa_cons (pv 0) pa_nil)) (pa_cons (pv 1) (pa_cons (pv 2) pa_nil))))), ?_⟩
    refine ⟨_, rfl, x, n, ts, rs, rfl, hy, yok, fun x' ts2 rs2 H1 hy1 trn2 s1 => ?_⟩
    obtain ⟨e1, e2⟩ := trn.uniq trn2
    subst e1 e2
    refine ⟨_, rfl, _, rfl, x', a, .non, n, d + 1, ts', rs', r, most, none, rfl, hy1.y, (trn.ydok yok).yp, n5, ha.imp (fun h => (Kp.of_same s1).seqL h) (fun h => s1 _ _ h), hl, p0, rfl, dep.stop, ?_⟩
    rcases fin with ⟨hm, k⟩ | ⟨hm, raised⟩
    · refine .inl ⟨fun i hi => ?_, fun f0 ds H2 ef pd s2 => k f0 ds H2 ef pd (s1.trans s2)⟩
      have := Sn_le (S := stepsV ts' rs') (r := r) (i := i) (j := d) (by omega)
      omega
    · exact .inr ⟨⟨d, by omega, hm⟩, raised.same s1⟩
theorem scCr : FnScope NCr ["found"] (defScope sCr) := ⟨rfl, rfl, rfl, by decide +kernel, rfl, by decide +kernel, by decide +kernel⟩
theorem ok_cr {f : Addr} {fd fdC : FuncData} (F : Fun K "clear_rows" "clear_rows" sCr f fd) (gT : mg "tuple" = none) (gSo : mg "sorted" = none)
    (gC : mg "counts_in" = some (.ref fCt)) (GC : FnOk P w K mg base CX0 1 fCt fdC ["found"] (spCt K)) (FC : Fun K "counts_in" "counts_in" sCt fCt fdC) (bC : Binds K fdC ["found"] []) :
    FnOk P w K mg base CX0 2 f fd ["found"] (spCr K) := by
  refine F.ok scCr (fun vs H Q E h => ?_) (fun cdv A outer s H vs Q E hr h => ?_)
  · obtain ⟨f, ds, S, r, k, rfl, _⟩ := h
    rfl
  · obtain ⟨f, ds, S, r, k, rfl, hf, pd, hB, hS, hne, k26, fin⟩ := h
    have hu := hu_of hr
    refine ⟨_, pss_cons (ps_set (i := 1) scCr.nd rfl (Or.inr rfl) (pe_call GC hr (by rfl) gC FC.kp bC .nil pass0 (pa_cons (pv 0) pa_nil)))
      (pss_one (ps_ret (pe_callTy call_tuple_of (by rfl) gT (by decide +kernel) (pa_cons
        (pe_lc (own := [("layer", 3)]) (g := gName 3) (tt := tYes) rfl scCr.nd (pi_list (pe_slice sl_list (pv 0) po_none (po_some (pe_un un_neg pe_int)))) (blkOk_by (N := NCr) (sc := defScope sCr) (by decide +kernel))
          (fun _ _ _ _ _ => pg_name (i := 3) scCr.nd rfl (Or.inl rfl)) (fun _ _ _ _ _ => pts_nil)
          (fun _ _ _ _ _ => pe_callTy (call_tuple_ofK (K := K) rfl) (by rfl) gT (by decide +kernel) (pa_cons (pe_callB (cr_sortRlK (K := K) rfl) (by rfl) gSo (by decide +kernel) (pa_cons
            (pe_lock (pe_lc (own := [("stand", 2)]) (g := gName 2) rfl scCr.nd (pi_keys (pv 3)) (blkOk_re (N := NCr) (by decide +kernel))
              (fun _ _ _ _ _ => pg_name (i := 2) scCr.nd rfl (Or.inl rfl)) (fun _ _ _ _ _ => pts_one (pt_cmpR op_eq (pe_dget hu (pv 1) (pv 2) (fun _ _ => rfl)) pe_int (nomark _))) (fun _ _ _ _ _ => pv 2))) pa_nil)) pa_nil))) pa_nil)))), ?_⟩
    refine ⟨_, rfl, f, ds, S, r, k + 1, rfl, hf, pd, hB, hS, fun c kvc H1 nc ec hkc s1 => ?_⟩
    refine gset_go (σ' := [some (.ref f), some (.ref c), none, none]) rfl ?_
    dsimp only
    have hf1 := s1 _ _ hf
    refine ⟨_, rfl, 1, rfl, _, rfl, f, ds, rfl, SqL.of hf1, fun p np => ⟨p, rfl, ⟨_, SqL.of upd_same⟩, fun D nD => ?_⟩⟩
    rw [cut_last] at nD ⊢
    have sp := Same.new (o := .lst (ds.take (ds.length - 1))) np
    have ep : (upd H1 p (.lst (ds.take (ds.length - 1)))) p = some (.lst (ds.take (ds.length - 1))) := upd_same
    have lp : ds.length = k + 1 + 1 := by rw [Paired.length pd, List.length_map, List.length_range]
    have pt : Paired (LayD K H) (ds.take (ds.length - 1)) ((List.range (k + 1)).map (pkL S r)) := by
      have := par_take pd (ds.length - 1)
      rw [lp] at this ⊢
      rw [← range_take (pkL S r) k, List.length_map, List.length_range]
      exact this
    have ldt : (ds.take (ds.length - 1)).length = k + 1 := by rw [List.length_take]; omega
    generalize ds.take (ds.length - 1) = dt at sp ep pt ldt nD ⊢
    have nDH : H D = none := Same.none (s1.trans sp) nD
    have ec2 := sp _ _ ec
    have s12 := s1.trans sp
    generalize upd H1 p (.lst dt) = H2 at sp ep nD ec2 s12 ⊢
    have ndk : ((cW S r (k + 1)).map (·.1)).Nodup := by rw [cW_keys]; exact Sn_nodup (k + 1)
    refine lc_list (K := K) (a := p) (xs := dt) (fun i H' => ∃ ys Ms, H' D = some (.lst ys) ∧ Paired (RowsV H') ys Ms ∧ Paired SortedOf Ms (((List.range (k + 1)).take i).map (Clr S r)) ∧ ys.length = i ∧ Same H2 H') ⟨[], [], upd_same, .nil, .nil, rfl, Same.new nD⟩ (fun i H' _ ⟨_, _, _, _, _, _, s⟩ => SqL.of (s _ _ ep)) (fun i v H3 hv h => ?_) (fun H3 h => ?_)
    · obtain ⟨ys, Ms, eD, py, ps, ly, s3⟩ := h
      have hi := (List.getElem?_eq_some_iff.mp hv).1
      rw [ldt] at hi
      obtain ⟨pp, epp, g, kvg, rfl, egH, hkg⟩ := par_get pt hv
      obtain rfl : pkL S r i = pp := by
        rw [List.getElem?_map, List.getElem?_range hi] at epp
        exact Option.some.inj epp
      have s13 := s12.trans s3
      have eg3 := s13 _ _ egH
      have ec3 := s3 _ _ ec2
      have kdg := hkg.keysD
      rw [pkL_keys] at kdg
      refine ⟨rfl, yes_if ?_⟩
      refine ⟨g, .dT kvg, eg3, trivial, fun od => ?_⟩
      refine ⟨_, rfl, g, od, rfl, .inr ⟨kvg, upd_same, fun D2 nD2 => ?_⟩⟩
      have eg4 : (upd H3 g (.frz od (.dT kvg))) g = some (.frz od (.dT kvg)) := upd_same
      have b4 : ∀ b o, b ≠ g → H3 b = some o → (upd H3 g (.frz od (.dT kvg))) b = some o := fun b o n e => by rw [upd_ne n]; exact e
      generalize upd H3 g (.frz od (.dT kvg)) = H4 at eg4 b4 nD2 ⊢
      have D2g : D2 ≠ g := fun z => by rw [z, eg4] at nD2; cases nD2
      have nD23 : H3 D2 = none := by
        cases e : H3 D2 with
        | none => rfl
        | some o => rw [b4 D2 o D2g e] at nD2; cases nD2
      have gc : g ≠ c := ne_of_none egH nc
      refine lc_it walk_keysT (fun j H' => ∃ rr, H' D2 = some (.lst rr) ∧ Paired (RowV H') rr (((Ly S r i).take j).filter fun x => decide (cnt S r i x = 1)) ∧ rr.length ≤ j ∧ H' g = some (.frz od (.dT kvg)) ∧ (∀ b o, b ≠ g → H3 b = some o → H' b = some o))
        ⟨[], upd_same, .nil, Nat.le_refl 0, by rw [upd_ne (Ne.symm D2g)]; exact eg4, fun b o n e => by rw [upd_ne (ne_of_none e nD23)]; exact b4 b o n e⟩ (fun j H' _ ⟨_, _, _, _, e, _⟩ => e) ?_ ?_
      · rintro j y H5 H5' hj ⟨rr, eD2, prr, lrr, eg5, b5⟩ ⟨rfl, key, val, ka, hkv, rfl, eka⟩
        obtain ⟨x, ex, hkey⟩ := par_get kdg hkv
        obtain rfl : key = keyR x := hkey
        have hx : x ∈ Ly S r i := List.mem_of_getElem? ex
        have jl : j < 3125 := by
          have h1 := (List.getElem?_eq_some_iff.mp ex).1
          have h2 := hB i
          have h3 : (Ly S r i).length ≤ (Sn S r i).length := by
            cases i with
            | zero => exact Nat.le_refl 1
            | succ i => rw [Sn_succ, List.length_append]; omega
          omega
        have ec5 := b5 c _ (Ne.symm gc) ec3
        obtain ⟨w', hw', rfl⟩ := hkc.at ndk (p := (x, cnt S r i x)) (cW_mem hx (by omega))
        have hw' : valV kvc (keyR x) = some (.int (cnt S r i x)) := hw'
        refine ⟨rfl, _, rfl, _, rfl, c, .int (cnt S r i x), rfl, .inr ⟨kvc, keyR x, ka, .inl ec5, rfl, eka, hw'.symm⟩, rfl, _, rfl, ?_⟩
        rw [dec_int]
        have oldD : ∀ {H' : Hp}, (∀ b xs, H5' b = some (.tup xs) → H' b = some (.tup xs)) → Paired (RowV H') rr (((Ly S r i).take j).filter fun x => decide (cnt S r i x = 1)) := fun f => par_map (fun v z h => h.kp f) prr
        refine ifT (fun c1 => ?_) (fun c1 => ?_)
        · have c1 := eq_of_beq c1
          refine ⟨_, rfl, rr, eD2, Nat.lt_of_le_of_lt (by omega : rr.length ≤ 3125) (by decide), rr ++ [.ref ka], upd_same, ?_, by rw [List.length_append]; exact Nat.succ_le_succ lrr, by rw [upd_ne (Ne.symm D2g)]; exact eg5, fun b o n e => by rw [upd_ne (ne_of_none e nD23)]; exact b5 b o n e⟩
          rw [take_next ex, filter_snoc, decide_eq_true c1, if_pos rfl]
          have up : ∀ b xs, H5' b = some (.tup xs) → (upd H5' D2 (.lst (rr ++ [.ref ka]))) b = some (.tup xs) := fun b xs e => by
            rw [upd_ne (ne_of e eD2 (by intro z; cases z))]
            exact e
          exact par_snoc (oldD up) ⟨ka, rfl, up _ _ (by rw [← keyR_kV]; exact eka)⟩
        · have c1 : ¬ cnt S r i x = 1 := fun z => by rw [z] at c1; exact absurd c1 (by decide)
          refine ⟨rr, eD2, ?_, by omega, eg5, b5⟩
          rw [take_next ex, filter_snoc, decide_eq_false c1, if_neg Bool.false_ne_true]
          exact prr
      · rintro H5 ⟨rr, eD2, prr, lrr, eg5, b5⟩
        rw [Paired.length kdg, List.take_length] at prr
        refine ⟨eg5, ?_⟩
        have s5 : Same H3 (upd H5 g (.dT kvg)) := fun b o e => by
          by_cases c : b = g
          · rw [c] at e ⊢
            rw [upd_same, ← eg3, e]
          · rw [upd_ne c]
            exact b5 b o c e
        have eD6 : (upd H5 g (.dT kvg)) D2 = some (.lst rr) := by rw [upd_ne D2g]; exact eD2
        have prr6 := par_map (fun v z (h : RowV H5 v z) => h.kp (H' := upd H5 g (.dT kvg)) fun b xs e => by rw [upd_ne (ne_of e eg5 (by intro z; cases z))]; exact e) prr
        generalize upd H5 g (.dT kvg) = H6 at s5 eD6 prr6 ⊢
        have lkg : kvg.length ≤ 3125 := by
          have h2 := hB i
          have h3 : (Ly S r i).length ≤ (Sn S r i).length := by
            cases i with
            | zero => exact Nat.le_refl 1
            | succ i => rw [Sn_succ, List.length_append]; omega
          have := Paired.length kdg
          omega
        refine ⟨D2, rr, rfl, .inl (SqL.of eD6), by omega, fun z hz => ?_, fun zs q hp hs nq => ?_⟩
        · obtain ⟨j, hj⟩ := List.mem_iff_getElem?.mp hz
          obtain ⟨x, ex, b, rfl, hb⟩ := par_get prr6 hj
          refine ⟨x, ⟨b, rfl, SqT.of hb⟩, hne i x (Ly_sub i x ?_)⟩
          exact (List.mem_filter.mp (List.mem_of_getElem? ex)).1
        obtain ⟨M, pM, sM⟩ := rows_sorted (K := K) prr6 hp hs
        have sq := Same.new (o := .lst zs) nq
        refine ⟨q, zs, rfl, .inl ⟨SqL.of upd_same, fun t nt => ?_⟩⟩
        have st := Same.new (o := .tup zs) nt
        have sA := (s5.trans sq).trans st
        have eDA := sA _ _ eD
        refine ⟨ys, eDA, by rw [ly]; exact Nat.lt_of_lt_of_le (by omega : i < 4001) (by decide), ys ++ [.ref t], Ms ++ [M], upd_same, ?_, ?_, by rw [List.length_append, ly]; rfl, Same.upd_new (s3.trans sA) nD⟩
        · have up : ∀ b xs, (upd (upd H6 q (.lst zs)) t (.tup zs)) b = some (.tup xs) → (upd (upd (upd H6 q (.lst zs)) t (.tup zs)) D (.lst (ys ++ [.ref t]))) b = some (.tup xs) := fun b xs e => by
            rw [upd_ne (ne_of e eDA (by intro z; cases z))]
            exact e
          refine par_snoc (par_map (fun v M h => h.kp fun b xs e => up _ _ (sA _ _ e)) py) ⟨t, zs, rfl, up _ _ upd_same, par_map (fun v r h => h.kp fun b xs e => up _ _ (st _ _ (sq _ _ e))) pM⟩
        · rw [take_next (show (List.range (k + 1))[i]? = some i from List.getElem?_range hi), List.map_append]
          exact par_snoc ps sM
    · obtain ⟨ys, Ms, eD, py, ps, ly, s3⟩ := h
      rw [ldt, List.take_of_length_le (by rw [List.length_range]; exact Nat.le_refl _)] at ps
      refine ⟨D, ys, rfl, .inl ⟨SqL.of eD, fun t nt => ?_⟩⟩
      have st := Same.new (o := .tup ys) nt
      exact fin _ Ms _ ⟨t, ys, rfl, upd_same, par_map (fun v M h => h.kp fun b xs e => st _ _ e) py⟩ ps ((s12.trans s3).trans st)
theorem scCs : FnScope ["yard", "goal", "most"] ["yard", "goal", "most"] (defScope sCs) := ⟨rfl, rfl, rfl, by decide +kernel, rfl, by decide +kernel, by decide +kernel⟩
theorem found_ok {n d : Nat} {ts : List (Int × Int)} {rs : List (List Int)} {r : Rw} (yp : YP n ts rs) (hl : r.length = n) (n5 : n ≤ 5) (dep : Dep (stepsV ts rs) r d) : (∀ i, (Sn (stepsV ts rs) r i).length ≤ 3125) ∧ (∀ x, (stepsV ts rs x).length ≤ 120) ∧ (∀ i, ∀ x ∈ Sn (stepsV ts rs) r i, x ≠ []) ∧ d ≤ 3126 := by
  refine ⟨fun i => sn_len yp hl n5 i, fun x => steps_len yp x, fun i x hx e => ?_, ?_⟩
  · have h1 := (sn_perm yp hl i x hx).length_eq
    have h2 := yp.n1
    rw [e, hl] at h1
    have h1 : 0 = n := h1
    omega
  · have := Nat.le_trans (Sn_grow d dep.ne) (sn_len yp hl n5 d)
    omega
theorem ok_cs {f : Addr} {fd fdS fdC : FuncData} (F : Fun K "clear_stands" "clear_stands" sCs f fd)
    (gS : mg "searched_to" = some (.ref fSt)) (GS : FnOk P w K mg base (L2.CX P w) 9 fSt fdS ["yard", "goal", "most"] (spSt K C CM)) (FS : Fun K "searched_to" "searched_to" sSt fSt fdS) (bS : Binds K fdS ["yard", "goal", "most"] [])
    (gC : mg "clear_rows" = some (.ref fCr)) (GC : FnOk P w K mg base CX0 2 fCr fdC ["found"] (spCr K)) (FC : Fun K "clear_rows" "clear_rows" sCr fCr fdC) (bC : Binds K fdC ["found"] []) :
    FnOk P w K mg base (L2.CX P w) 10 f fd ["yard", "goal", "most"] (spCs K C CM) := by
  refine F.okX scCs (fun vs H Q E h => ?_) (fun cdv A outer s H vs Q E hr h => ?_)
  · obtain ⟨x, a, n, d, ts, ts', rs, rs', r, most, rfl, _⟩ := h
    rfl
  · obtain ⟨x, a, n, d, ts, ts', rs, rs', r, most, rfl, hy, yok, n5, ha, hl, p0, trn, dep, fin⟩ := h
    have hr2 : Room 2 _ := hr.mono (by decide)
    refine ⟨_, pss_one (ps_ret (pe_call GC hr2 (by rfl) gC FC.kp bC .nil pass0 (pa_cons (pe_call GS hr (by rfl) gS FS.kp bS .nil (passes_call (takes_of rfl rfl rfl rfl) fun _ _ _ _ h => h) (pa_cons (pv 0) (pa_cons (pv 1) (pa_cons (pv 2) pa_nil)))) pa_nil))), ?_⟩
    refine ⟨_, rfl, _, rfl, _, rfl, x, a, n, d, ts, ts', rs, rs', r, most, rfl, hy, yok, n5, ha, hl, p0, trn, dep, ?_⟩
    obtain ⟨o1, o2, o3, o4⟩ := found_ok (trn.ydok yok).yp hl n5 dep
    rcases fin with ⟨hm, k⟩ | ⟨hm, raised⟩
    · exact .inl ⟨hm, fun f0 ds H1 ef pd s1 => ⟨f0, ds, _, r, d, rfl, ef, pd, o1, o2, o3, o4, fun v Ms H2 hv hs s2 => k v Ms H2 hv hs (s1.trans s2)⟩⟩
    · exact .inr ⟨hm, raised⟩
end
end Y
set_option Elab.async false
set_option linter.all false
set_option maxRecDepth 100000
set_option maxHeartbeats 4000000
namespace Y
open PySem L2
/-! ### move_back, clear_row -/
abbrev sMb : Stmt := top 32
abbrev sCw : Stmt := top 33
abbrev NCw : List Str := ["yard", "goal", "stand", "most", "found", "start", "distance", "row", "moves", "move"]
theorem RowV.a {K : PySem.W.Frag} {H : Hp} {v : V} {r : Rw} (h : RowV H v r) : RwD.RowA K H v r := let ⟨b, e, h⟩ := h; ⟨b, e, SqT.of h⟩
def spMb (K : PySem.W.Frag) : Sp := fun vs H Q _ => ∃ (y : V) (m : Mv), vs = [y] ∧ MvAt K H y m ∧ ∀ y' H', MvAt K H' y' (bk m) → Same H H' → Q y' H'
def spCw (K : PySem.W.Frag) (C CM : Addr) : Sp := fun vs H Q E => ∃ (x a b : Addr) (n d : Nat) (ts ts' : List (Int × Int)) (rs rs' : List (List Int)) (r q : Rw) (most : Int), vs = [.ref x, .ref a, .ref b, .int most] ∧ YObjC K H C x n ts rs ∧ YdOk n ts rs ∧ n ≤ 5 ∧
  (SqL K H a (r.map V.int) ∨ H a = some (.tup (r.map V.int))) ∧ (SqL K H b (q.map V.int) ∨ H b = some (.tup (q.map V.int))) ∧ r.length = n ∧ (∀ z ∈ r, 0 ≤ z) ∧ Trn n ts rs ts' rs' ∧ Dep (stepsV ts' rs') r d ∧
  ((((Sn (stepsV ts' rs') r d).length : Int) ≤ most ∧ ((∀ k, k ≤ d → q ∉ Clr (stepsV ts' rs') r k) → ∀ H', Same H H' → Q .non H') ∧
     (∀ k, k ≤ d → q ∈ Clr (stepsV ts' rs') r k → ∀ t ys ms H', H' t = some (.tup ys) → MvsAt K H' ys ms → RightR (stepsV ts rs) (stepsV ts' rs') r k q ms → Same H H' → Q (.ref t) H')) ∨
   (most < ((Sn (stepsV ts' rs') r d).length : Int) ∧ RaisedF CM [("most", .int most)] H E))
theorem cut_to' {xs : List V} {d : Nat} (h1 : d ≤ xs.length) : cutV xs none (some ((d : Nat) : Int)) = xs.take d := by
  have := cut_to (xs := xs) (d := ((d : Nat) : Int)) (by omega) (by omega)
  simpa using this
section
variable {P : Program} {w : World} {K : PySem.W.Frag} {mg : Str → Option Value} {base : Heap} {C CM fSt fCr fMi fMb : Addr}
theorem scMb : FnScope ["move"] ["move"] (defScope sMb) := ⟨rfl, rfl, rfl, by decide +kernel, rfl, by decide +kernel, by decide +kernel⟩
theorem ok_mb {f : Addr} {fd : FuncData} (F : Fun K "move_back" "move_back" sMb f fd) : FnOk P w K mg base CX0 1 f fd ["move"] (spMb K) := by
  refine F.ok scMb (fun vs H Q E h => ?_) (fun cdv A outer s H vs Q E hr h => ?_)
  · obtain ⟨y, m, rfl, _⟩ := h
    rfl
  · obtain ⟨y, m, rfl, ⟨b, rfl, hb⟩, k⟩ := h
    refine ⟨_, pss_one (ps_ret (pe_ifExp (pt_cmpR op_eq (pe_ix ix_tup (pv 0) pe_int (fun _ _ => rfl)) pe_str (nomark _)) (pe_tup (pa_cons pe_str (pa_cons (pe_ix ix_tup (pv 0) pe_int (fun _ _ => rfl)) (pa_cons (pe_ix ix_tup (pv 0) pe_int (fun _ _ => rfl)) pa_nil)))) (pv 0))), ?_⟩
    cases m with
    | slide u v =>
      refine ⟨_, rfl, b, _, 0, _, rfl, rfl, hb, atI_nat (j := 0) rfl, rfl, _, rfl, ?_⟩
      refine iteT ?_
      refine ⟨_, rfl, b, _, 2, _, rfl, rfl, hb, atI_nat (j := 2) rfl, _, rfl, b, _, 1, _, rfl, rfl, hb, atI_nat (j := 1) rfl, (by show 3 ≤ sizeLine; decide), fun t nt => ?_⟩
      exact k _ _ ⟨t, rfl, SqT.of upd_same⟩ (Same.new nt)
    | turn u =>
      refine ⟨_, rfl, b, _, 0, _, rfl, rfl, hb, atI_nat (j := 0) rfl, rfl, _, rfl, ?_⟩
      refine iteF ?_
      exact ⟨_, rfl, k _ H ⟨b, rfl, hb⟩ (Same.refl' H)⟩
theorem scCw : FnScope NCw ["yard", "goal", "stand", "most"] (defScope sCw) := ⟨rfl, rfl, rfl, by decide +kernel, rfl, by decide +kernel, by decide +kernel⟩
theorem ok_cw {f : Addr} {fd fdS fdC fdM fdB : FuncData} (F : Fun K "clear_row" "clear_row" sCw f fd) (gT : mg "tuple" = none) (gE : mg "enumerate" = none) (gR : mg "reversed" = none)
    (gS : mg "searched_to" = some (.ref fSt)) (GS : FnOk P w K mg base (L2.CX P w) 9 fSt fdS ["yard", "goal", "most"] (spSt K C CM)) (FS : Fun K "searched_to" "searched_to" sSt fSt fdS) (bS : Binds K fdS ["yard", "goal", "most"] [])
    (gC : mg "clear_rows" = some (.ref fCr)) (GC : FnOk P w K mg base CX0 2 fCr fdC ["found"] (spCr K)) (FC : Fun K "clear_rows" "clear_rows" sCr fCr fdC) (bC : Binds K fdC ["found"] [])
    (gM : mg "moves_in" = some (.ref fMi)) (GM : FnOk P w K mg base CX0 1 fMi fdM ["found", "other"] (spMi K)) (FM : Fun K "moves_in" "moves_in" sMi fMi fdM) (bM : Binds K fdM ["found", "other"] [])
    (gB : mg "move_back" = some (.ref fMb)) (GB : FnOk P w K mg base CX0 1 fMb fdB ["move"] (spMb K)) (FB : Fun K "move_back" "move_back" sMb fMb fdB) (bB : Binds K fdB ["move"] []) :
    FnOk P w K mg base (L2.CX P w) 10 f fd ["yard", "goal", "stand", "most"] (spCw K C CM) := by
  refine F.okX scCw (fun vs H Q E h => ?_) (fun cdv A outer s H vs Q E hr h => ?_)
  · obtain ⟨x, a, b, n, d, ts, ts', rs, rs', r, q, most, rfl, _⟩ := h
    rfl
  · obtain ⟨x, a, b, n, d, ts, ts', rs, rs', r, q, most, rfl, hy, yok, n5, ha, hb, hl, p0, trn, dep, fin⟩ := h
    have hr2 : Room 2 _ := hr.mono (by decide)
    have hr1 : Room 1 _ := hr.mono (by decide)
    have hu64 := hr.units
    refine ⟨_, pss_cons (ps_set (i := 4) scCw.nd rfl (Or.inl rfl) (pe_call GS hr (by rfl) gS FS.kp bS .nil (passes_call (takes_of rfl rfl rfl rfl) fun _ _ _ _ h => h) (pa_cons (pv 0) (pa_cons (pv 1) (pa_cons (pv 3) pa_nil)))))
      (pss_cons (ps_set (i := 5) scCw.nd rfl (Or.inl rfl) (pe_callTy call_tuple_row (by rfl) gT (by decide +kernel) (pa_cons (pv 2) pa_nil)))
      (pss_cons (ps_for (passes_of rfl) rfl (pi_enumT (by rfl) gE (pa_cons (pe_call GC hr2 (by rfl) gC FC.kp bC .nil pass0 (pa_cons (pv 4) pa_nil)) pa_nil) rfl) (pgT (K := K) (n := 2) rfl rfl (pgs_cons (pg_name (i := 6) scCw.nd rfl (Or.inl rfl)) (pgs_cons (pg_name (i := 7) scCw.nd rfl (Or.inl rfl)) pgs_nil)) rfl rfl)
        (pss_one (ps_if (pt_cmpR (RwD.op_inR (K := K) rfl hu64) (pv 5) (pv 7) (by rfl))
          (pss_cons (ps_set (i := 8) scCw.nd rfl (Or.inl rfl) (pe_call GM hr1 (by rfl) gM FM.kp bM .nil pass0 (pa_cons (pe_slice sl_list (pv 4) po_none (po_some (pe_op op_add (pv 6) pe_int))) (pa_cons (pv 5) pa_nil))))
          (pss_one (ps_ret (pe_callTy call_tuple_of (by rfl) gT (by decide +kernel) (pa_cons
            (pe_lc (own := [("move", 9)]) (g := gName 9) (tt := tYes) rfl scCw.nd (pi_revV (by rfl) gR (pv 8)) (blkOk_by (N := NCw) (sc := defScope sCw) (by decide +kernel))
              (fun _ _ _ _ _ => pg_name (i := 9) scCw.nd rfl (Or.inl rfl)) (fun _ _ _ _ _ => pts_nil) (fun _ _ _ _ _ => pe_call GB hr1 (by rfl) gB FB.kp bB .nil pass0 (pa_cons (pv 9) pa_nil))) pa_nil))))) pss_nil)))
      (pss_one (ps_ret pe_non)))), ?_⟩
    refine ⟨_, rfl, _, rfl, _, rfl, x, a, n, d, ts, ts', rs, rs', r, most, rfl, hy, yok, n5, ha, hl, p0, trn, dep, ?_⟩
    rcases fin with ⟨hm, kN, kS⟩ | ⟨hm, raised⟩
    · refine .inl ⟨hm, fun f0 ds H1 ef pd s1 => ?_⟩
      refine gset_go (σ' := [some (.ref x), some (.ref a), some (.ref b), some (.int most), some (.ref f0), none, none, none, none, none]) rfl ?_
      dsimp only
      refine ⟨_, rfl, b, q, rfl, hb.imp (fun h => (Kp.of_same s1).seqL h) (fun h => s1 _ _ h), fun b1 H2 eb1 s2 => ?_⟩
      refine gset_go (σ' := [some (.ref x), some (.ref a), some (.ref b), some (.int most), some (.ref f0), some (.ref b1), none, none, none, none]) rfl ?_
      dsimp only
      obtain ⟨o1, o2, o3, o4⟩ := found_ok (trn.ydok yok).yp hl n5 dep
      have d120 := dep120 (trn.ydok yok).yp hl n5 dep
      have layd : ∀ {A B : Hp} {v : V} {ps : List (Rw × List Pr)}, Same A B → LayD K A v ps → LayD K B v ps := fun {A B v ps} s h => by
        obtain ⟨g, kvs, e1, e2, e3⟩ := h
        exact ⟨g, kvs, e1, s _ _ e2, e3.mono fun v z h => h.kp (.of_same s) fun l xs _ e => s _ _ e⟩
      refine ⟨_, rfl, f0, ds, _, r, d, rfl, s2 _ _ ef, par_map (fun v ps h => layd s2 h) pd, o1, o2, o3, o4, fun v Ms H3 hv hs s3 => ?_⟩
      obtain ⟨t, vs, rfl, et, pvs⟩ := hv
      have s23 := s2.trans s3
      have lvs : vs.length = d + 1 := by rw [Paired.length pvs, Paired.length hs, List.length_map, List.length_range]
      have ef3 := s23 _ _ ef
      have eb3 := s3 _ _ eb1
      have pd3 := par_map (fun v ps h => layd s23 h) pd
      refine ⟨t, vs, rfl, SqT.of et, ?_⟩
      refine for_it (walk_enumT (K := K) (a := t) (xs := vs)) (fun i σ H' => ∃ (v6 v7 : Option V), σ = [some (.ref x), some (.ref a), some (.ref b), some (.int most), some (.ref f0), some (.ref b1), v6, v7, none, none] ∧ (∀ k, k < i → q ∉ Clr (stepsV ts' rs') r k) ∧ Same H3 H')
        ⟨none, none, rfl, (fun k h => absurd h (Nat.not_lt_zero k)), Same.refl' _⟩ (fun i σ H' _ ⟨_, _, _, _, s⟩ => SqT.of (s _ _ et)) ?_ ?_
      · rintro i y σ H4 H4' hi ⟨v6, v7, rfl, no, s4⟩ ⟨T1, u1, u2, rfl, nT, rfl, hu1, hu2⟩
        cases Option.some.inj hu1
        obtain ⟨M, eM, mt, mvs, rfl, emt, pM⟩ := par_get pvs hu2
        obtain ⟨L, eL, hML⟩ := par_get hs eM
        rw [lvs] at hi
        rw [List.getElem?_map, List.getElem?_range hi] at eL
        obtain rfl : Clr (stepsV ts' rs') r i = L := Option.some.inj eL
        have sT := Same.new (o := .tup [.int (i : Nat), .ref mt]) nT
        have s34 := s4.trans sT
        refine ⟨T1, _, rfl, SqT.of upd_same, rfl, _, _, rfl, _, _, rfl, rfl, ?_⟩
        generalize upd H4 T1 (.tup [.int (i : Nat), .ref mt]) = H5 at s34 ⊢
        refine ⟨_, rfl, _, rfl, mt, mvs, M, q, rfl, .inl (SqT.of (s34 _ _ emt)), par_map (fun v z h => (RowV.kp h fun b xs e => s34 _ _ e).a) pM, ⟨b1, rfl, SqT.of (s34 _ _ eb3)⟩, _, rfl, ?_⟩
        have hin : q ∈ M ↔ q ∈ Clr (stepsV ts' rs') r i := hML.perm.mem_iff
        refine ifT (fun c => ?_) (fun c => ?_)
        · have c := hin.mp (of_decide_eq_true c)
          have ef5 := s34 _ _ ef3
          have eb5 := s34 _ _ eb3
          have lds : ds.length = d + 1 + 1 := by rw [Paired.length pd, List.length_map, List.length_range]
          refine ⟨_, rfl, _, rfl, _, _, rfl, rfl, _, rfl, f0, ds, rfl, SqL.of ef5, fun p np => ?_⟩
          rw [show cutV ds none (some ((i : Int) + 1)) = ds.take (i + 1) from cut_to' (d := i + 1) (by omega)]
          have sp := Same.new (o := .lst (ds.take (i + 1))) np
          have ep : (upd H5 p (.lst (ds.take (i + 1)))) p = some (.lst (ds.take (i + 1))) := upd_same
          generalize upd H5 p (.lst (ds.take (i + 1))) = H6 at sp ep ⊢
          have s36 := s34.trans sp
          have pd6 : Paired (LayD K H6) (ds.take (i + 1)) ((List.range (i + 1)).map (pkL (stepsV ts' rs') r)) := by
            have := par_take (par_map (fun v ps h => layd s36 h) pd3) (i + 1)
            rw [← List.map_take, List.take_range, show min (i + 1) (d + 1 + 1) = i + 1 by omega] at this
            exact this
          refine ⟨_, rfl, p, b1, n, i, ts', rs', r, q, _, rfl, (trn.ydok yok).yp, ep, pd6, sp _ _ eb5, (mem_clr.mp c).1, by omega, fun t2 ys ms H7 et2 hms lms hch s7 => ?_⟩
          refine gset_go (σ' := [some (.ref x), some (.ref a), some (.ref b), some (.int most), some (.ref f0), some (.ref b1), some (.int (i : Nat)), some (.ref mt), some (.ref t2), none]) rfl ?_
          dsimp only
          refine ⟨t2, ys, H7, rfl, .inr (SqT.of et2), .of_same (Same.refl' _), fun J G wk hG D nD => ?_⟩
          have lys : ys.length = i := by rw [Paired.length hms, lms]
          refine lc_it wk (fun j H' => ∃ ws, H' D = some (.lst ws) ∧ MvsAt K H' ws ((ms.reverse.take j).map bk) ∧ ws.length = j ∧ Same H7 H') ⟨[], upd_same, .nil, rfl, Same.new nD⟩ (fun j H' _ ⟨_, _, _, _, s⟩ => hG _ (.of_same s)) ?_ ?_
          · rintro j y H8 H8' hj ⟨ws, eD, pw, lw, s8⟩ ⟨rfl, hyj⟩
            obtain ⟨m, em, hmv⟩ := par_get (par_rev hms) (show ys.reverse[j]? = some y by rw [List.getElem?_reverse (by omega)]; exact hyj)
            refine ⟨rfl, yes_if ?_⟩
            refine ⟨_, rfl, y, m, rfl, hmv.kp (.of_same s8), fun y' H9 hy' s9 => ?_⟩
            have eD9 := s9 _ _ eD
            refine ⟨ws, eD9, Nat.lt_of_le_of_lt (by omega : ws.length ≤ 200) (by decide), ws ++ [y'], upd_same, ?_, by rw [List.length_append, lw]; rfl, Same.upd_new (s8.trans s9) nD⟩
            rw [take_next em, List.map_append]
            exact par_snoc (par_map (fun y m' h => (h.kp (.of_same s9)).off eD9) pw) (hy'.off eD9)
          · rintro H8 ⟨ws, eD, pw, lw, s8⟩
            rw [lys, List.take_of_length_le (by rw [List.length_reverse]; omega)] at pw
            refine ⟨D, ws, rfl, .inl ⟨SqL.of eD, fun t3 nt3 => ?_⟩⟩
            have s9 := Same.new (o := .tup ws) nt3
            refine kS i (by omega) c t3 ws (ms.reverse.map bk) _ upd_same (par_map (fun y m' h => h.kp (.of_same s9)) pw) ?_ ((((s1.trans s23).trans s36).trans s7).trans (s8.trans s9))
            exact right_of trn (trn.ydok yok).yp hl (mem_clr.mp c).1 (mem_clr.mp c).2 hch (by rw [List.length_reverse, lms])
        · have c : q ∉ Clr (stepsV ts' rs') r i := fun z => by rw [decide_eq_true (hin.mpr z)] at c; cases c
          refine ⟨_, _, rfl, fun k hk => ?_, s34⟩
          rcases Nat.lt_or_ge k i with h | h
          · exact no k h
          · rw [show k = i by omega]; exact c
      · rintro σ H4 ⟨v6, v7, rfl, no, s4⟩
        rw [lvs] at no
        exact kN (fun k hk => no k (by omega)) H4 ((s1.trans s23).trans s4)
    · exact .inr ⟨hm, raised⟩
end
end Y
set_option Elab.async false
set_option linter.all false
set_option maxRecDepth 100000
set_option maxHeartbeats 4000000
namespace Y
open PySem L2
/-! ### made_stand, hardest -/
abbrev sNumI : Stmt := inClass (top 7) 0
abbrev sMs : Stmt := top 34
abbrev sHa : Stmt := top 35
/-- the number that is asked for, where there is one -/
def numB (d : PyData) (m : Nat) : Bool := match d with
  | .int z => decide (0 ≤ z) && decide (z < m)
  | _ => false
def farB (T : StF) (r : Rw) (d : PyData) (m : Nat) : Bool := numB d (m + 1) && match d with
  | .int z => !(Clr T r z.toNat).isEmpty
  | _ => false
theorem numB_no {d : PyData} {m : Nat} (h : isCnt d = false) : numB d m = false := by
  cases d with
  | int z => show (decide (0 ≤ z) && _) = false; rw [show decide (0 ≤ z) = false from h]; rfl
  | _ => rfl
theorem farB_no {T : StF} {r : Rw} {d : PyData} {m : Nat} (h : isCnt d = false) : farB T r d m = false := by
  unfold farB
  rw [numB_no h]
  rfl
theorem cnt_nat {d : PyData} (h : isCnt d = true) : ∃ k : Nat, d = .int k := by
  cases d with
  | int z =>
    have h := of_decide_eq_true (show decide (0 ≤ z) = true from h)
    exact ⟨z.toNat, by rw [Int.toNat_of_nonneg h]⟩
  | _ => cases h
theorem numB_nat (k m : Nat) : numB (.int k) m = decide (k < m) := by
  show (decide (0 ≤ (k : Int)) && decide ((k : Int) < m)) = _
  rw [decide_eq_true (Int.natCast_nonneg k), Bool.true_and, decide_eq_decide]
  omega
theorem farB_nat {T : StF} {r : Rw} (k m : Nat) : farB T r (.int k) m = (decide (k < m + 1) && !(Clr T r k).isEmpty) := by
  unfold farB
  rw [numB_nat]
  rfl
def tTru (K : PySem.W.Frag) (ta : TE) : TT := fun σ H Q => ta σ H fun x H' => ∃ k, TruV K x H' k ∧ Q k H'
theorem pt_truthK {X : Cx} {K : PySem.W.Frag} {a : Expr} {ta : TE} (e : X.K = K) (ha : PE X a ta) (he : ∀ whole, isTrue a X.env whole = (do let v ← whole; standAt a.pos; holding [v] (truthy v))) :
    PT X a (tTru K ta) := by
  subst e
  exact pt_truth ha he
def natD : PyData → Nat
  | .int z => z.toNat
  | _ => 0
def badNum (CB : Addr) (w : Str) (v : V) (H : Hp) (E : XK) : Prop := RaisedF CB [("number", v), ("what", .str w)] H E
def spMs (K : PySem.W.Frag) (C CM CB : Addr) : Sp := fun vs H Q E => ∃ (x a : Addr) (vf vn : V) (df dn : PyData) (n d : Nat) (ts ts' : List (Int × Int)) (rs rs' : List (List Int)) (r : Rw) (most : Int), vs = [.ref x, .ref a, vf, vn, .int most] ∧ YObjC K H C x n ts rs ∧ YdOk n ts rs ∧ n ≤ 5 ∧
  (SqL K H a (r.map V.int) ∨ H a = some (.tup (r.map V.int))) ∧ r.length = n ∧ (∀ z ∈ r, 0 ≤ z) ∧ Dq K H df vf ∧ Dq K H dn vn ∧ Trn n ts rs ts' rs' ∧ Dep (stepsV ts' rs') r d ∧
  ((((Sn (stepsV ts' rs') r d).length : Int) ≤ most ∧
     ((farB (stepsV ts' rs') r df d = false ∧ badNum CB "moves" vf H E) ∨
      (farB (stepsV ts' rs') r df d = true ∧ numB dn (Clr (stepsV ts' rs') r (natD df)).length = false ∧ badNum CB "number" vn H E) ∨
      (farB (stepsV ts' rs') r df d = true ∧ numB dn (Clr (stepsV ts' rs') r (natD df)).length = true ∧ ∀ M v z H', SortedOf M (Clr (stepsV ts' rs') r (natD df)) → M[natD dn]? = some z → RowV H' v z → Same H H' → Q v H'))) ∨
   (most < ((Sn (stepsV ts' rs') r d).length : Int) ∧ RaisedF CM [("most", .int most)] H E))
/-- the farthest stands with but one way -/
structure Deep (T : StF) (r : Rw) (d dd : Nat) : Prop where
  le : dd ≤ d
  iff : ∀ k, k ≤ d → (Clr T r k ≠ [] ↔ k ≤ dd)
theorem clr_down {T : StF} {r : Rw} {k : Nat} (h : Clr T r (k + 1) ≠ []) : Clr T r k ≠ [] := by
  obtain ⟨x, hx⟩ := List.exists_mem_of_ne_nil _ h
  obtain ⟨h1, h2⟩ := mem_clr.mp hx
  obtain ⟨p, l, e, hp, hm⟩ := into_ne h1
  exact List.ne_nil_of_mem (mem_clr.mpr ⟨hp, cnt_pred h2 hp hm⟩)
theorem clr_le {T : StF} {r : Rw} {k j : Nat} (h : Clr T r k ≠ []) (hj : j ≤ k) : Clr T r j ≠ [] := by
  induction k with
  | zero => rw [show j = 0 by omega]; exact h
  | succ k ih =>
    rcases Nat.lt_or_ge k j with c | c
    · rw [show j = k + 1 by omega]; exact h
    · exact ih (clr_down h) c
theorem clr_zero {T : StF} {r : Rw} : Clr T r 0 ≠ [] := List.ne_nil_of_mem (mem_clr.mpr ⟨List.mem_singleton.mpr rfl, rfl⟩)
theorem deep_of (T : StF) (r : Rw) : ∀ d, ∃ dd, Deep T r d dd
  | 0 => ⟨0, Nat.le_refl 0, fun k hk => ⟨fun _ => hk, fun _ => by rw [show k = 0 by omega]; exact clr_zero⟩⟩
  | d + 1 => by
    obtain ⟨dd, h1, h2⟩ := deep_of T r d
    by_cases c : Clr T r (d + 1) = []
    · refine ⟨dd, by omega, fun k hk => ?_⟩
      rcases Nat.lt_or_ge d k with h | h
      · obtain rfl : k = d + 1 := by omega
        exact ⟨fun z => absurd c z, fun z => by omega⟩
      · exact h2 k h
    · exact ⟨d + 1, Nat.le_refl _, fun k hk => ⟨fun _ => hk, fun _ => clr_le c hk⟩⟩
def spHa (K : PySem.W.Frag) (C CM : Addr) : Sp := fun vs H Q E => ∃ (x a : Addr) (n d dd : Nat) (ts ts' : List (Int × Int)) (rs rs' : List (List Int)) (r : Rw) (most : Int), vs = [.ref x, .ref a, .int most] ∧ YObjC K H C x n ts rs ∧ YdOk n ts rs ∧ n ≤ 5 ∧
  (SqL K H a (r.map V.int) ∨ H a = some (.tup (r.map V.int))) ∧ r.length = n ∧ (∀ z ∈ r, 0 ≤ z) ∧ Trn n ts rs ts' rs' ∧ Dep (stepsV ts' rs') r d ∧ Deep (stepsV ts' rs') r d dd ∧
  ((((Sn (stepsV ts' rs') r d).length : Int) ≤ most ∧ ∀ q v M H', H' q = some (.tup [.int (dd : Nat), v]) → RowsV H' v M → SortedOf M (Clr (stepsV ts' rs') r dd) → Same H H' → Q (.ref q) H') ∨
   (most < ((Sn (stepsV ts' rs') r d).length : Int) ∧ RaisedF CM [("most", .int most)] H E))
section
variable {P : Program} {w : World} {K : PySem.W.Frag} {mg : Str → Option Value} {base : Heap} {C CM CB fCs fIB fCnt : Addr}
theorem scNumI : FnScope ["self", "what", "number"] ["self", "what", "number"] (defScope sNumI) := ⟨rfl, rfl, rfl, by decide +kernel, rfl, by decide +kernel, by decide +kernel⟩
theorem ok_numI {f C : Addr} {fd : FuncData} (F : Fun K "__init__" "BadNumber.__init__" sNumI f fd) (T : XE2 K mg "BadNumber" "what" "number" C f) : FnOk P w K mg base CX0 1 f fd ["self", "what", "number"] (spX2 C "what" "number") := by
  refine F.ok scNumI (fun vs H Q E h => ?_) (fun cdv A outer s H vs Q E hr h => ?_)
  · obtain ⟨a, v, v2, rfl, _⟩ := h
    rfl
  · obtain ⟨a, v, v2, rfl, ha, k⟩ := h
    refine ⟨_, pss_cons (ps_ost (pv 0) (pv 1)) (pss_one (ps_ost (pv 0) (pv 2))), ?_⟩
    refine ⟨_, rfl, _, rfl, a, C, rfl, T.xc.o, T.n, .inl ⟨ha, fun dx nn ne => ?_⟩⟩
    refine ⟨_, rfl, _, rfl, a, C, rfl, T.xc.o, T.n2, .inr ⟨dx, _, upd_same, by rw [upd_ne ne]; exact upd_same, by show 1 ≤ 900; decide, ?_⟩⟩
    exact k dx _ nn ne (fun b u hb e => by rw [upd_ne (ne_of_none e nn), upd_ne hb, upd_ne (ne_of_none e nn)]; exact e) (by rw [upd_ne (Ne.symm ne)]; exact upd_same) upd_same
theorem scMs : FnScope ["yard", "goal", "far", "number", "most", "rows"] ["yard", "goal", "far", "number", "most"] (defScope sMs) := ⟨rfl, rfl, rfl, by decide +kernel, rfl, by decide +kernel, by decide +kernel⟩
theorem ok_ms {f : Addr} {fd fdS fdC fdI : FuncData} (F : Fun K "made_stand" "made_stand" sMs f fd) (gN : mg "len" = none)
    (gS : mg "clear_stands" = some (.ref fCs)) (GS : FnOk P w K mg base (L2.CX P w) 10 fCs fdS ["yard", "goal", "most"] (spCs K C CM)) (FS : Fun K "clear_stands" "clear_stands" sCs fCs fdS) (bS : Binds K fdS ["yard", "goal", "most"] [])
    (gC : mg "is_count" = some (.ref fCnt)) (GC : FnOk P w K mg base CX0 2 fCnt fdC ["value"] (spIsCountD K)) (FC : Fun K "is_count" "is_count" sIsCount fCnt fdC) (bC : Binds K fdC ["value"] [])
    (XB : XE2 K mg "BadNumber" "what" "number" CB fIB) (GIB : FnOk P w K mg base CX0 1 fIB fdI ["self", "what", "number"] (spX2 CB "what" "number")) (bIB : Binds K fdI ["self", "what", "number"] []) :
    FnOk P w K mg base (L2.CX P w) 11 f fd ["yard", "goal", "far", "number", "most"] (spMs K C CM CB) := by
  refine F.okX scMs (fun vs H Q E h => ?_) (fun cdv A outer s H vs Q E hr h => ?_)
  · obtain ⟨x, a, vf, vn, df, dn, n, d, ts, ts', rs, rs', r, most, rfl, _⟩ := h
    rfl
  · obtain ⟨x, a, vf, vn, df, dn, n, d, ts, ts', rs, rs', r, most, rfl, hy, yok, n5, ha, hl, p0, hf, hn, trn, dep, fin⟩ := h
    have hr2 : Room 2 _ := hr.mono (by decide)
    refine ⟨_, pss_cons (ps_set (i := 5) scMs.nd rfl (Or.inl rfl) (pe_call GS hr (by rfl) gS FS.kp bS .nil (passes_call (takes_of rfl rfl rfl rfl) fun _ _ _ _ h => h) (pa_cons (pv 0) (pa_cons (pv 1) (pa_cons (pv 4) pa_nil)))))
      (pss_cons (ps_if (PW.pt (pw_or (pt_not (pt_val (pe_call GC hr2 (by rfl) gC FC.kp bC .nil pass0 (pa_cons (pv 2) pa_nil)))) (pw_or (pt_cmpR op_ge (pv 2) (pe_callB call_len_seq (by rfl) gN PySem.boot_len (pa_cons (pv 5) pa_nil)) (nomark _)) (pw_or1 (pt_not (pt_truth (pe_ix ix_tup (pv 5) (pv 2) (fun _ _ => rfl)) (by intro _; rfl)))))))
        (pss_one (ps_raise rfl (takes_of rfl rfl rfl rfl) (pmk_oex XB.xc.o XB.i XB.t GIB hr2 bIB .nil pass0 (by rfl) XB.g (pa_cons pe_str (pa_cons (pv 2) pa_nil))))) pss_nil)
      (pss_cons (ps_if (PW.pt (pw_or (pt_not (pt_val (pe_call GC hr2 (by rfl) gC FC.kp bC .nil pass0 (pa_cons (pv 3) pa_nil)))) (pw_or1 (pt_cmpR op_ge (pv 3) (pe_callB call_len_seq (by rfl) gN PySem.boot_len (pa_cons (pe_ix ix_tup (pv 5) (pv 2) (fun _ _ => rfl)) pa_nil)) (nomark _)))))
        (pss_one (ps_raise rfl (takes_of rfl rfl rfl rfl) (pmk_oex XB.xc.o XB.i XB.t GIB hr2 bIB .nil pass0 (by rfl) XB.g (pa_cons pe_str (pa_cons (pv 3) pa_nil))))) pss_nil)
      (pss_one (ps_ret (pe_ix ix_tup (pe_ix ix_tup (pv 5) (pv 2) (fun _ _ => rfl)) (pv 3) (fun _ _ => rfl)))))), ?_⟩
    refine ⟨_, rfl, _, rfl, _, rfl, x, a, n, d, ts, ts', rs, rs', r, most, rfl, hy, yok, n5, ha, hl, p0, trn, dep, ?_⟩
    rcases fin with ⟨hm, fin⟩ | ⟨hm, raised⟩
    case inr => exact .inr ⟨hm, raised⟩
    refine .inl ⟨hm, fun v Ms H1 hv hs s1 => ?_⟩
    obtain ⟨t, vs, rfl, et, pvs⟩ := hv
    refine gset_go (σ' := [some (.ref x), some (.ref a), some vf, some vn, some (.int most), some (.ref t)]) rfl ?_
    dsimp only
    have lvs : vs.length = d + 1 := by rw [Paired.length pvs, Paired.length hs, List.length_map, List.length_range]
    have hf1 := Dq.kp s1 hf
    have hn1 := Dq.kp s1 hn
    have fN : farB (stepsV ts' rs') r df d = false → badNum CB "moves" vf H E := fun e => by
      rcases fin with h | h | h
      · exact h.2
      · rw [e] at h; cases h.1
      · rw [e] at h; cases h.1
    have eN : ∀ {H' : Hp} {D : Ends} {σ : L2.St}, Same H H' → True := fun _ => trivial
    refine ⟨_, rfl, vf, df, rfl, hf1, _, rfl, ?_⟩
    by_cases cI : isCnt df = true
    case neg =>
      have cI : isCnt df = false := by simpa using cI
      have e : farB (stepsV ts' rs') r df d = false := by
        exact farB_no cI
      rw [cI]
      refine iteT' rfl ?_
      refine ⟨_, rfl, ?_⟩
      exact mk2 fun dd H' s _ e' => fN e dd H' (s1.trans s) e'
    obtain ⟨k, rfl⟩ := cnt_nat cI
    obtain rfl : vf = .int (k : Nat) := by cases hf; rfl
    rw [cI]
    refine iteF' rfl ?_
    refine ⟨_, rfl, _, rfl, t, vs, rfl, .inr (SqT.of et), _, _, rfl, rfl, _, rfl, ?_⟩
    rw [lvs]
    refine ifT (fun c => ?_) (fun c => ?_)
    · have c := of_decide_eq_true c
      have e : farB (stepsV ts' rs') r (.int (k : Nat)) d = false := by
        rw [farB_nat, decide_eq_false (by omega)]
        rfl
      refine ⟨_, rfl, ?_⟩
      exact mk2 fun dd H' s _ e' => fN e dd H' (s1.trans s) e'
    have c : k < d + 1 := by have := of_decide_eq_false c; omega
    obtain ⟨vM, hvM⟩ : ∃ vM, vs[k]? = some vM := ⟨_, List.getElem?_eq_getElem (by omega)⟩
    obtain ⟨M, eM, mt, mvs, rfl, emt, pM⟩ := par_get pvs hvM
    obtain ⟨L, eL, hML⟩ := par_get hs eM
    rw [List.getElem?_map, List.getElem?_range c] at eL
    obtain rfl : Clr (stepsV ts' rs') r k = L := Option.some.inj eL
    have lmv : mvs.length = (Clr (stepsV ts' rs') r k).length := by rw [Paired.length pM, hML.perm.length_eq]
    refine ⟨_, rfl, _, rfl, t, vs, (k : Int), _, rfl, rfl, SqT.of et, atI_nat hvM, _, .inr (.inl ⟨mvs, SqT.of emt, rfl⟩), ?_⟩
    have emp : mvs.isEmpty = (Clr (stepsV ts' rs') r k).isEmpty := by
      cases h1 : mvs <;> cases h2 : Clr (stepsV ts' rs') r k <;> rw [h1, h2] at lmv <;> first | rfl | (simp at lmv)
    by_cases cE : (Clr (stepsV ts' rs') r k).isEmpty = true
    · rw [emp, cE]
      have e : farB (stepsV ts' rs') r (.int (k : Nat)) d = false := by
        rw [farB_nat, cE, Bool.not_true, Bool.and_false]
      refine iteT' rfl ?_
      refine ⟨_, rfl, ?_⟩
      exact mk2 fun dd H' s _ e' => fN e dd H' (s1.trans s) e'
    have cE : (Clr (stepsV ts' rs') r k).isEmpty = false := by simpa using cE
    rw [emp, cE]
    refine iteF' rfl ?_
    have e : farB (stepsV ts' rs') r (.int (k : Nat)) d = true := by
      rw [farB_nat, cE, decide_eq_true c]
      rfl
    have fin : (numB dn (Clr (stepsV ts' rs') r k).length = false ∧ badNum CB "number" vn H E) ∨ (numB dn (Clr (stepsV ts' rs') r k).length = true ∧ ∀ M v z H', SortedOf M (Clr (stepsV ts' rs') r k) → M[natD dn]? = some z → RowV H' v z → Same H H' → Q v H') := by
      rcases fin with h | h | h
      · rw [e] at h; cases h.1
      · exact .inl h.2
      · exact .inr h.2
    have gN : numB dn (Clr (stepsV ts' rs') r k).length = false → badNum CB "number" vn H E := fun e => by
      rcases fin with h | h
      · exact h.2
      · rw [e] at h; cases h.1
    refine ⟨_, rfl, vn, dn, rfl, hn1, _, rfl, ?_⟩
    by_cases cI : isCnt dn = true
    case neg =>
      have cI : isCnt dn = false := by simpa using cI
      rw [cI]
      refine iteT' rfl ?_
      refine ⟨_, rfl, ?_⟩
      exact mk2 fun dd H' s _ e' => gN (numB_no cI) dd H' (s1.trans s) e'
    obtain ⟨j, rfl⟩ := cnt_nat cI
    obtain rfl : vn = .int (j : Nat) := by cases hn; rfl
    rw [cI]
    refine iteF' rfl ?_
    refine ⟨_, rfl, _, rfl, _, rfl, t, vs, (k : Int), _, rfl, rfl, SqT.of et, atI_nat hvM, mt, mvs, rfl, .inr (SqT.of emt), _, _, rfl, rfl, _, rfl, ?_⟩
    rw [lmv]
    refine ifT (fun c2 => ?_) (fun c2 => ?_)
    · have c2 := of_decide_eq_true c2
      refine ⟨_, rfl, ?_⟩
      exact mk2 fun dd H' s _ e' => gN (by rw [numB_nat, decide_eq_false (by omega)]) dd H' (s1.trans s) e'
    have c2 : j < (Clr (stepsV ts' rs') r k).length := by have := of_decide_eq_false c2; omega
    obtain ⟨vz, hvz⟩ : ∃ vz, mvs[j]? = some vz := ⟨_, List.getElem?_eq_getElem (by omega)⟩
    obtain ⟨z, ez, hz⟩ := par_get pM hvz
    refine ⟨_, rfl, _, rfl, t, vs, (k : Int), _, rfl, rfl, SqT.of et, atI_nat hvM, _, rfl, mt, mvs, (j : Int), _, rfl, rfl, SqT.of emt, atI_nat hvz, ?_⟩
    rcases fin with h | h
    · rw [numB_nat, decide_eq_true c2] at h
      cases h.1
    · exact h.2 M vz z H1 hML ez hz s1
abbrev NHa : List Str := ["yard", "goal", "most", "rows", "row"]
theorem scHa : FnScope NHa ["yard", "goal", "most"] (defScope sHa) := ⟨rfl, rfl, rfl, by decide +kernel, rfl, by decide +kernel, by decide +kernel⟩
theorem ok_ha {f : Addr} {fd fdS : FuncData} (F : Fun K "hardest" "hardest" sHa f fd) (gN : mg "len" = none)
    (gS : mg "clear_stands" = some (.ref fCs)) (GS : FnOk P w K mg base (L2.CX P w) 10 fCs fdS ["yard", "goal", "most"] (spCs K C CM)) (FS : Fun K "clear_stands" "clear_stands" sCs fCs fdS) (bS : Binds K fdS ["yard", "goal", "most"] []) :
    FnOk P w K mg base (L2.CX P w) 11 f fd ["yard", "goal", "most"] (spHa K C CM) := by
  refine F.okX scHa (fun vs H Q E h => ?_) (fun cdv A outer s H vs Q E hr h => ?_)
  · obtain ⟨x, a, n, d, dd, ts, ts', rs, rs', r, most, rfl, _⟩ := h
    rfl
  · obtain ⟨x, a, n, d, dd, ts, ts', rs, rs', r, most, rfl, hy, yok, n5, ha, hl, p0, trn, dep, deep, fin⟩ := h
    refine ⟨_, pss_cons (ps_setLc (own := [("row", 4)]) (i := 3) (g := gName 4) rfl scHa.nd rfl rfl (sw_true rfl rfl rfl (by decide +kernel)) (pi_tup (pe_call GS hr (by rfl) gS FS.kp bS .nil (passes_call (takes_of rfl rfl rfl rfl) fun _ _ _ _ h => h) (pa_cons (pv 0) (pa_cons (pv 1) (pa_cons (pv 2) pa_nil))))) (blkOk_by (N := NHa) (sc := defScope sHa) (by decide +kernel))
        (fun _ _ _ _ _ => pg_name (i := 4) scHa.nd rfl (Or.inl rfl)) (fun _ _ _ _ _ => pts_one (pt_truthK (K := K) rfl (pv 4) (by intro _; rfl))) (fun _ _ _ _ _ => pv 4))
      (pss_one (ps_ret (pe_tup (pa_cons (pe_op op_sub (pe_callB call_len_seq (by rfl) gN PySem.boot_len (pa_cons (pv 3) pa_nil)) pe_int) (pa_cons (pe_ix ix_list (pv 3) (pe_un un_neg pe_int) (fun _ _ => rfl)) pa_nil))))), ?_⟩
    refine ⟨_, rfl, _, rfl, _, rfl, x, a, n, d, ts, ts', rs, rs', r, most, rfl, hy, yok, n5, ha, hl, p0, trn, dep, ?_⟩
    rcases fin with ⟨hm, fin⟩ | ⟨hm, raised⟩
    case inr => exact .inr ⟨hm, raised⟩
    refine .inl ⟨hm, fun v Ms H1 hv hs s1 => ?_⟩
    obtain ⟨t, vs, rfl, et, pvs⟩ := hv
    have lvs : vs.length = d + 1 := by rw [Paired.length pvs, Paired.length hs, List.length_map, List.length_range]
    have d120 := dep120 (trn.ydok yok).yp hl n5 dep
    refine ⟨t, rfl, ⟨_, SqT.of et⟩, fun D nD => ?_⟩
    refine lc_tup (K := K) (a := t) (xs := vs) (fun i H' => ∃ ws Ns, H' D = some (.lst ws) ∧ Paired (RowsV H') ws Ns ∧ Paired SortedOf Ns ((List.range (min i (dd + 1))).map (Clr (stepsV ts' rs') r)) ∧ ws.length ≤ i ∧ Same H1 H') ⟨[], [], upd_same, .nil, by rw [Nat.zero_min]; exact .nil, Nat.le_refl 0, Same.new nD⟩ (fun i H' _ ⟨_, _, _, _, _, _, s⟩ => SqT.of (s _ _ et)) (fun i v H2 hv h => ?_) (fun H2 h => ?_)
    · obtain ⟨ws, Ns, eD, pw, ps, lw, s2⟩ := h
      have hi := (List.getElem?_eq_some_iff.mp hv).1
      rw [lvs] at hi
      obtain ⟨M, eM, mt, mvs, rfl, emt, pM⟩ := par_get pvs hv
      obtain ⟨L, eL, hML⟩ := par_get hs eM
      rw [List.getElem?_map, List.getElem?_range hi] at eL
      obtain rfl : Clr (stepsV ts' rs') r i = L := Option.some.inj eL
      have lmv : mvs.length = (Clr (stepsV ts' rs') r i).length := by rw [Paired.length pM, hML.perm.length_eq]
      have di := deep.iff i (by omega)
      refine ⟨rfl, _, rfl, _, .inr (.inl ⟨mvs, SqT.of (s2 _ _ emt), rfl⟩), ?_⟩
      by_cases c : i ≤ dd
      · have ne : mvs.isEmpty = false := by
          cases h : mvs with
          | nil => rw [h] at lmv; exact absurd (List.length_eq_zero_iff.mp lmv.symm) (di.mpr c)
          | cons _ _ => rfl
        rw [ne]
        refine iteT' rfl ?_
        refine ⟨_, rfl, ws, eD, Nat.lt_of_le_of_lt (by omega : ws.length ≤ 200) (by decide), ws ++ [.ref mt], Ns ++ [M], upd_same, ?_, ?_, by rw [List.length_append]; exact Nat.succ_le_succ lw, Same.upd_new s2 nD⟩
        · have up : ∀ b xs, H2 b = some (.tup xs) → (upd H2 D (.lst (ws ++ [.ref mt]))) b = some (.tup xs) := fun b xs e => by
            rw [upd_ne (ne_of e eD (by intro z; cases z))]
            exact e
          exact par_snoc (par_map (fun v M h => h.kp up) pw) ⟨mt, mvs, rfl, up _ _ (s2 _ _ emt), par_map (fun v r h => h.kp fun b xs e => up _ _ (s2 _ _ e)) pM⟩
        · rw [show min (i + 1) (dd + 1) = i + 1 by omega]
          rw [show min i (dd + 1) = i by omega] at ps
          rw [List.range_succ, List.map_append]
          exact par_snoc ps hML
      · have ne : mvs.isEmpty = true := by
          have : Clr (stepsV ts' rs') r i = [] := Classical.byContradiction fun z => c (di.mp z)
          rw [this] at lmv
          rw [List.length_eq_zero_iff.mp lmv]
          rfl
        rw [ne]
        refine iteF' rfl ?_
        refine ⟨ws, Ns, eD, pw, ?_, by omega, s2⟩
        rw [show min (i + 1) (dd + 1) = dd + 1 by omega]
        rwa [show min i (dd + 1) = dd + 1 by omega] at ps
    · obtain ⟨ws, Ns, eD, pw, ps, lw, s2⟩ := h
      rw [lvs, show min (d + 1) (dd + 1) = dd + 1 by have := deep.le; omega] at ps
      refine gset_go (σ' := [some (.ref x), some (.ref a), some (.int most), some (.ref D), none]) rfl ?_
      dsimp only
      have lws : ws.length = dd + 1 := by rw [Paired.length pw, Paired.length ps, List.length_map, List.length_range]
      rw [List.range_succ, List.map_append] at ps
      obtain ⟨Ms0, M, rfl, _, hM⟩ := par_last ps
      obtain ⟨vs0, vM, rfl, pv0, hvM⟩ := par_last pw
      refine ⟨_, rfl, D, _, rfl, .inl (SqL.of eD), _, _, rfl, rfl, _, rfl, 1, rfl, D, _, -1, _, rfl, rfl, SqL.of eD, atI_lastD _ _, (by show 2 ≤ sizeLine; decide), fun q nq => ?_⟩
      have sq := Same.new (o := .tup [.int (((vs0 ++ [vM]).length : Nat) - 1), vM]) nq
      refine fin q vM M _ ?_ (hvM.kp fun b xs e => sq _ _ e) hM ((s1.trans s2).trans sq)
      rw [upd_same, lws]
      show some (HO.tup [V.int (((dd + 1 : Nat) : Int) - 1), vM]) = _
      rw [show (((dd + 1 : Nat) : Int) - 1) = ((dd : Nat) : Int) by omega]
end
end Y
set_option Elab.async false
set_option linter.all false
set_option maxRecDepth 100000
set_option maxHeartbeats 4000000
namespace Y
open PySem L2
/-! ### _law_turned -/
abbrev sTu : Stmt := top 50
abbrev NTu : List Str := ["_law_yard", "_law_rings", "_law_ring", "_law_a", "_law_b"]
theorem le_row2 {t u : Int × Int} {n : Nat} (h64 : n ≤ 60) (h1 : TieOk n t) (h2 : TieOk n u) (h : RowLe (row2 t) (row2 u)) : TS.code 64 [t.1, t.2] ≤ TS.code 64 [u.1, u.2] := by
  obtain ⟨a0, a1, b0, b1, _⟩ := h1
  obtain ⟨c0, c1, d0, d1, _⟩ := h2
  have e1 : TS.code 64 [t.1, t.2] = t.1 * 64 + t.2 := code_pair _ _
  have e2 : TS.code 64 [u.1, u.2] = u.1 * 64 + u.2 := code_pair _ _
  rw [e1, e2]
  have h : HT.lexLt [u.1, u.2] [t.1, t.2] = false := h
  rw [HT.lexLt_cons] at h
  by_cases c : u.1 = t.1
  · rw [if_pos c, HT.lexLt_cons] at h
    by_cases c2 : u.2 = t.2
    · omega
    · rw [if_neg c2] at h
      have := of_decide_eq_false h
      omega
  · rw [if_neg c] at h
    have := of_decide_eq_false h
    omega
def pair2 (r : List Int) : Int × Int := (r.getD 0 0, r.getD 1 0)
theorem pair_row2 (t : Int × Int) : pair2 (row2 t) = t := rfl
theorem ties_sorted {n : Nat} {ks : List (Int × Int)} {M : List Rw} (h64 : n ≤ 60) (nd : ks.Nodup) (ok : ∀ t ∈ ks, TieOk n t) (h : SortedOf M (ks.map row2)) : M = (M.map pair2).map row2 ∧ ks.Perm (M.map pair2) ∧ TiesOk n (M.map pair2) := by
  have p : (M.map pair2).Perm ks := by
    have := h.perm.map pair2
    rw [List.map_map] at this
    rwa [show ks.map (pair2 ∘ row2) = ks from List.map_id _] at this
  have e : M = (M.map pair2).map row2 := by
    rw [List.map_map]
    refine (List.map_id' _).symm.trans (List.map_congr_left fun r hr => ?_)
    obtain ⟨t, _, rfl⟩ := List.mem_map.mp (h.perm.mem_iff.mp hr)
    rfl
  refine ⟨e, p.symm, p.nodup_iff.mpr nd, fun t ht => ok t (p.mem_iff.mp ht), ?_⟩
  have pw := h.asc
  rw [e, List.pairwise_map] at pw
  exact List.Pairwise.imp_of_mem (fun {a b} ha hb h => le_row2 h64 (ok a (p.mem_iff.mp ha)) (ok b (p.mem_iff.mp hb)) h) pw
def spTu (K : PySem.W.Frag) : Sp := fun vs H Q _ => ∃ (q : Addr) (n : Nat) (ts : List (Int × Int)) (rs : List (List Int)), vs = [.ref q] ∧ YdAt K H q n ts rs ∧ YdOk n ts rs ∧
  ∀ q' ts' rs' H', YdAt K H' q' n ts' rs' → Trn n ts rs ts' rs' → Same H H' → Q (.ref q') H'
section
variable {P : Program} {w : World} {K : PySem.W.Frag} {mg : Str → Option Value} {base : Heap}
theorem scTu : FnScope NTu ["_law_yard"] (defScope sTu) := ⟨rfl, rfl, rfl, by decide +kernel, rfl, by decide +kernel, by decide +kernel⟩
theorem ok_tu {f : Addr} {fd : FuncData} (F : Fun K "_law_turned" "_law_turned" sTu f fd) (gT : mg "tuple" = none) (gS : mg "sorted" = none) : FnOk P w K mg base CX0 1 f fd ["_law_yard"] (spTu K) := by
  refine F.ok scTu (fun vs H Q E h => ?_) (fun cdv A outer s H vs Q E hr h => ?_)
  · obtain ⟨q, n, ts, rs, rfl, _⟩ := h
    rfl
  · obtain ⟨q, n, ts, rs, rfl, ⟨a, e, ys, zs, hq, ha, pa, he, pe⟩, yok, k⟩ := h
    obtain ⟨n1, n12, tok, tl, rok, rl⟩ := id yok
    refine ⟨_, pss_cons (ps_set (i := 1) scTu.nd rfl (Or.inl rfl) (pe_callTy call_tuple_of (by rfl) gT (by decide +kernel) (pa_cons
        (pe_lc (own := [("_law_ring", 2)]) (g := gName 2) (tt := tYes) rfl scTu.nd (pi_tup (pe_ix ix_tup (pv 0) pe_int (fun _ _ => rfl))) (blkOk_by (N := NTu) (sc := defScope sTu) (by decide +kernel))
          (fun _ _ _ _ _ => pg_name (i := 2) scTu.nd rfl (Or.inl rfl)) (fun _ _ _ _ _ => pts_nil)
          (fun _ _ _ _ _ => pe_op (op_catUK (K := K) rfl) (pe_slice (sl_tupUK (K := K) rfl) (pv 2) po_none (po_some pe_int))
            (pe_revU (K := K) rfl (pe_slice (sl_tupUK (K := K) rfl) (pv 2) (po_some pe_int) po_none) po_none (mono := fun σ H Q Q' f h => f _ _ h) (monoE := fun σ H Q Q' f h => ?mono)))) pa_nil)))
      (pss_one (ps_ret (pe_tup (pa_cons (pe_ix ix_tup (pv 0) pe_int (fun _ _ => rfl)) (pa_cons
        (pe_callTy call_tuple_of (by rfl) gT (by decide +kernel) (pa_cons (pe_callB cr_sortRl (by rfl) gS (by decide +kernel) (pa_cons
          (pe_lc (own := [("_law_a", 3), ("_law_b", 4)]) (g := gTup K 2 (gCons (gName 3) (gCons (gName 4) gNil))) (tt := tYes) rfl scTu.nd (pi_tup (pe_ix ix_tup (pv 0) pe_int (fun _ _ => rfl))) (blkOk_by (N := NTu) (sc := defScope sTu) (by decide +kernel))
            (fun _ _ _ _ _ => pgT (K := K) (n := 2) rfl rfl (pgs_cons (pg_name (i := 3) scTu.nd rfl (Or.inl rfl)) (pgs_cons (pg_name (i := 4) scTu.nd rfl (Or.inl rfl)) pgs_nil)) rfl rfl)
            (fun _ _ _ _ _ => pts_nil) (fun _ _ _ _ _ => pe_tup (pa_cons (pv 4) (pa_cons (pv 3) pa_nil)))) pa_nil)) pa_nil)) (pa_cons (pv 1) pa_nil)))))), ?_⟩
    case mono =>
      obtain ⟨v, e, i, e2, a, xs, e3, e4, g⟩ := h
      exact ⟨v, e, i, e2, a, xs, e3, e4, fun u H' h1 h2 => f _ _ (g u H' h1 h2)⟩
    refine ⟨_, rfl, q, _, 2, _, rfl, rfl, hq, atI_nat (j := 2) rfl, e, rfl, ⟨_, he⟩, fun G nG => ?_⟩
    have lzs : zs.length = rs.length := Paired.length pe
    have lys := ties_len pa
    refine lc_tup (K := K) (a := e) (xs := zs) (fun i H' => ∃ us, H' G = some (.lst us) ∧ Paired (RingAt K H') us ((rs.take i).map revR) ∧ us.length = i ∧ Same H H') ⟨[], upd_same, .nil, rfl, Same.new nG⟩ (fun i H' _ ⟨_, _, _, _, s⟩ => Same.seqT s he) (fun i v H3 hv h => ?_) (fun H3 h => ?_)
    · obtain ⟨us, eG, pu, lu, s3⟩ := h
      obtain ⟨r, er, b, rfl, hb⟩ := par_get pe hv
      refine ⟨rfl, yes_if ?_⟩
      refine ⟨_, rfl, 1, rfl, b, _, rfl, Same.seqT s3 hb, fun u1 H4 hu1 s4 => ?_⟩
      refine ⟨_, rfl, 1, rfl, b, _, rfl, Same.seqT (s3.trans s4) hb, fun u2 H5 hu2 s5 => ?_⟩
      refine ⟨u2, _, rfl, hu2, .inl rfl, fun u3 H6 hu3 s6 => ?_⟩
      refine ⟨u1, u3, _, _, rfl, rfl, Same.seqT (s5.trans s6) hu1, hu3, ?_, fun u4 H7 hu4 s7 => ?_⟩
      · have l1 := cutV_length (r.map V.int) none (some 1)
        have l2 := cutV_length (r.map V.int) (some 1) none
        have l3 := (rok r (List.mem_of_getElem? er)).2.2.2
        rw [List.length_map] at l1 l2
        rw [List.length_reverse, List.length_drop]
        exact Nat.le_trans (by omega : _ ≤ 24) (by decide)
      rw [rev_ring2] at hu4
      have s37 := ((s4.trans s5).trans s6).trans s7
      have e6 := s37 _ _ eG
      have hi := (List.getElem?_eq_some_iff.mp hv).1
      refine ⟨us, e6, Nat.lt_of_le_of_lt (by omega : us.length ≤ 60) (by decide), us ++ [V.ref u4], upd_same, ?_, by rw [List.length_append, lu]; rfl, Same.upd_new (s3.trans s37) nG⟩
      rw [take_next er, List.map_append]
      refine par_snoc (par_map (fun y m' h => ?_) pu) ⟨u4, rfl, seqT_off hu4 e6⟩
      obtain ⟨b', e', h⟩ := h
      exact ⟨b', e', seqT_off (Same.seqT s37 h) e6⟩
    obtain ⟨us, eG, pu, lu, s3⟩ := h
    rw [lzs, List.take_length] at pu
    refine ⟨G, us, rfl, .inl ⟨SqL.of eG, fun t0 nt0 => ?_⟩⟩
    have st0 := Same.new (o := .tup us) nt0
    have et0 : (upd H3 t0 (.tup us)) t0 = some (.tup us) := upd_same
    have pu := par_map (fun v r (h : RingAt K H3 v r) => (let ⟨b, e, h⟩ := h; ⟨b, e, Same.seqT st0 h⟩ : RingAt K (upd H3 t0 (.tup us)) v r)) pu
    have s4 := s3.trans st0
    generalize upd H3 t0 (.tup us) = H4 at et0 pu s4 ⊢
    refine gset_go (σ' := [some (.ref q), some (.ref t0), none, none, none]) rfl ?_
    dsimp only
    refine ⟨_, rfl, q, _, 0, _, rfl, rfl, Same.seqT s4 hq, atI_nat (j := 0) rfl, ?_⟩
    refine ⟨_, rfl, q, _, 1, _, rfl, rfl, Same.seqT s4 hq, atI_nat (j := 1) rfl, a, rfl, ⟨_, Same.seqT s4 ha⟩, fun D nD => ?_⟩
    refine lc_tup (K := K) (a := a) (xs := ys) (fun i H' => ∃ ws, H' D = some (.lst ws) ∧ Paired (RowV H') ws (((ts.take i).map sw).map row2) ∧ ws.length = i ∧ Same H4 H') ⟨[], upd_same, .nil, rfl, Same.new nD⟩ (fun i H' _ ⟨_, _, _, _, s⟩ => Same.seqT (s4.trans s) ha) (fun i v H5 hv h => ?_) (fun H5 h => ?_)
    · obtain ⟨ws, eD, pw, lw, s5⟩ := h
      obtain ⟨t, et, b, rfl, hb⟩ := ties_get pa hv
      refine ⟨b, _, rfl, Same.seqT (s4.trans s5) hb, rfl, _, _, rfl, _, _, rfl, rfl, rfl, yes_if ?_⟩
      refine ⟨_, rfl, _, rfl, (by show 2 ≤ sizeLine; decide), fun m nm => ?_⟩
      have e1 := Same.new nm (o := .tup [.int t.2, .int t.1]) _ _ eD
      have s6 := Same.new nm (o := .tup [.int t.2, .int t.1])
      have hi := (List.getElem?_eq_some_iff.mp hv).1
      refine ⟨ws, e1, Nat.lt_of_le_of_lt (by omega : ws.length ≤ 60) (by decide), ws ++ [V.ref m], upd_same, ?_, by rw [List.length_append, lw]; rfl, Same.upd_new (s5.trans s6) nD⟩
      rw [take_next et, List.map_append, List.map_append]
      have up : ∀ b xs, (upd H5 m (.tup [.int t.2, .int t.1])) b = some (.tup xs) → (upd (upd H5 m (.tup [.int t.2, .int t.1])) D (.lst (ws ++ [V.ref m]))) b = some (.tup xs) := fun b xs e => by
        rw [upd_ne (ne_of e e1 (by intro z; cases z))]
        exact e
      exact par_snoc (par_map (fun y m' h => h.kp fun b xs e => up _ _ (s6 _ _ e)) pw) ⟨m, rfl, up _ _ upd_same⟩
    obtain ⟨ws, eD, pw, lw, s5⟩ := h
    rw [lys, List.take_length] at pw
    have nd : (ts.map sw).Nodup := List.Pairwise.map _ (fun a b n z => n (by injection z with z1 z2; exact Prod.ext z2 z1)) tok.1
    have ok' : ∀ t ∈ ts.map sw, TieOk n t := fun t ht => by
      obtain ⟨u, hu, rfl⟩ := List.mem_map.mp ht
      obtain ⟨a0, a1, b0, b1, ne⟩ := tok.2.1 u hu
      exact ⟨b0, b1, a0, a1, Ne.symm ne⟩
    refine ⟨D, ws, rfl, .inl (SqL.of eD), by omega, fun z hz => ?_, fun zs' p hp hs np => ?_⟩
    · obtain ⟨j, hj⟩ := List.mem_iff_getElem?.mp hz
      obtain ⟨x, ex, b, rfl, hb⟩ := par_get pw hj
      obtain ⟨t, _, rfl⟩ := List.mem_map.mp (List.mem_of_getElem? ex)
      exact ⟨_, ⟨b, rfl, SqT.of hb⟩, by intro z; cases z⟩
    obtain ⟨M, pM, sM⟩ := rows_sorted (K := K) pw hp hs
    obtain ⟨eM, pmM, okM⟩ := ties_sorted (by omega : n ≤ 60) nd ok' sM
    have sp := Same.new (o := .lst zs') np
    refine ⟨p, zs', rfl, .inl ⟨SqL.of upd_same, fun t1 nt1 => ?_⟩⟩
    have st1 := Same.new (o := .tup zs') nt1
    have et1 : (upd (upd H5 p (.lst zs')) t1 (.tup zs')) t1 = some (.tup zs') := upd_same
    have s56 := sp.trans st1
    generalize upd (upd H5 p (.lst zs')) t1 (.tup zs') = H6 at et1 s56 ⊢
    refine ⟨_, rfl, (by show 3 ≤ sizeLine; decide), fun q' nq' => ?_⟩
    have s6 := Same.new (o := .tup [.int (n : Int), .ref t1, .ref t0]) nq'
    have s46 := (s5.trans s56).trans s6
    refine k q' (M.map pair2) (rs.map revR) _ ⟨t1, t0, zs', us, SqT.of upd_same, SqT.of (s6 _ _ et1), ?_, SqT.of (s46 _ _ et0), par_map (fun v r h => let ⟨b, e, h⟩ := h; ⟨b, e, Same.seqT s46 h⟩) pu⟩ ⟨by omega, tok, okM, pmM, rok, rfl⟩ (s4.trans s46)
    rw [eM] at pM
    have key : ∀ {vs : List V} {L : List (Int × Int)}, Paired (RowV H5) vs (L.map row2) → Paired (TieAt K (upd H6 q' (.tup [.int (n : Int), .ref t1, .ref t0]))) vs L := by
      intro vs L
      induction L generalizing vs with
      | nil => intro h; cases h; exact .nil
      | cons t L ih =>
        intro h
        cases h with
        | cons a b =>
          obtain ⟨b', e', h'⟩ := a
          exact .cons ⟨b', e', SqT.of (s6 _ _ (s56 _ _ h'))⟩ (ih b)
    exact key pM
end
end Y
set_option Elab.async false
set_option linter.all false
set_option maxRecDepth 100000
set_option maxHeartbeats 4000000
namespace Y
open PySem L2
/-! ### _law_ways_to -/
abbrev sWt : Stmt := top 53
abbrev NWt : List Str := ["_law_yard", "_law_goal", "_law_far", "_law_counts", "_law_one", "_law_k", "_law_ends", "_law_move", "_law_there"]
def spWt (K : PySem.W.Frag) : Sp := fun vs H Q _ => ∃ (q s : Addr) (n d : Nat) (ts ts' : List (Int × Int)) (rs rs' : List (List Int)) (r : Rw), vs = [.ref q, .ref s] ∧ YdAt K H q n ts rs ∧ YdOk n ts rs ∧ n ≤ 5 ∧ H s = some (.tup (r.map V.int)) ∧ r.length = n ∧
  Trn n ts rs ts' rs' ∧ Dep (stepsV ts' rs') r d ∧ ∀ t g c kvf kvc H', H' t = some (.tup [.ref g, .ref c]) → H' g = some (.dT kvf) → KVs IntK kvf (dW (stepsV ts' rs') r d) → H' c = some (.dT kvc) → KVs IntK kvc (cW (stepsV ts' rs') r d) → Same H H' → Q (.ref t) H'
section
variable {P : Program} {w : World} {K : PySem.W.Frag} {mg : Str → Option Value} {base : Heap} {fDraw fMs fMd fTu fRe : Addr}
theorem scWt : FnScope NWt ["_law_yard", "_law_goal"] (defScope sWt) := ⟨rfl, rfl, rfl, by decide +kernel, rfl, by decide +kernel, by decide +kernel⟩
theorem ok_wt {f : Addr} {fd fdM fdV fdT fdR : FuncData} (F : Fun K "_law_ways_to" "_law_ways_to" sWt f fd) (T : TG K mg fDraw) (gX : mg "max" = none) (gL : mg "list" = none) (gS : mg "sum" = none)
    (gM : mg "_law_moves" = some (.ref fMs)) (GM : FnOk P w K mg base CX0 1 fMs fdM ["_law_yard", "_law_stand"] (spMovesN K)) (FM : Fun K "_law_moves" "_law_moves" sMoves fMs fdM) (bM : Binds K fdM ["_law_yard", "_law_stand"] [])
    (gV : mg "_law_moved" = some (.ref fMd)) (GV : FnOk P w K mg base CX0 1 fMd fdV ["_law_yard", "_law_stand", "_law_move"] (spMoved K)) (FV : Fun K "_law_moved" "_law_moved" sMoved fMd fdV) (bV : Binds K fdV ["_law_yard", "_law_stand", "_law_move"] [])
    (gT : mg "_law_turned" = some (.ref fTu)) (GT : FnOk P w K mg base CX0 1 fTu fdT ["_law_yard"] (spTu K)) (FT : Fun K "_law_turned" "_law_turned" sTu fTu fdT) (bT : Binds K fdT ["_law_yard"] [])
    (gR : mg "_law_reached" = some (.ref fRe)) (GR : FnOk P w K mg base CX0 2 fRe fdR ["_law_yard", "_law_stand", "_law_most"] (spRe K)) (FR : Fun K "_law_reached" "_law_reached" sRe fRe fdR) (bR : Binds K fdR ["_law_yard", "_law_stand", "_law_most"] []) :
    FnOk P w K mg base CX0 3 f fd ["_law_yard", "_law_goal"] (spWt K) := by
  refine F.ok scWt (fun vs H Q E h => ?_) (fun cdv A outer s H vs Q E hr h => ?_)
  · obtain ⟨q, s, n, d, ts, ts', rs, rs', r, rfl, _⟩ := h
    rfl
  · obtain ⟨q, s, n, d, ts, ts', rs, rs', r, rfl, hy, yok, n5, hs, hl, trn, dep, fin⟩ := h
    have hu := hu_of hr
    have hr1 : Room 1 _ := hr.mono (by decide)
    have hr2 : Room 2 _ := hr.mono (by decide)
    refine ⟨_, pss_cons (ps_set (i := 2) scWt.nd rfl (Or.inr rfl) (pe_call GR hr2 (by rfl) gR FR.kp bR .nil pass0 (pa_cons (pe_call GT hr1 (by rfl) gT FT.kp bT .nil pass0 (pa_cons (pv 0) pa_nil)) (pa_cons (pv 1) (pa_cons (pe_op op_pow pe_int pe_int) pa_nil)))))
      (pss_cons (ps_set (i := 3) scWt.nd rfl (Or.inr rfl) (pe_disp1T hu (pv 1) pe_int))
      (pss_cons (ps_for PassesOwn.never rfl (pi_range2 (by rfl) T.range (pa_cons pe_int (pa_cons (pe_op op_add pe_int (pe_callB (cr_max rfl) (by rfl) gX (by decide +kernel) (pa_cons (pe_callTy call_list_of (by rfl) gL (by decide +kernel) (pa_cons
          (pe_lock (pe_lc (own := [("_law_one", 4)]) (g := gName 4) (tt := tYes) rfl scWt.nd (pi_keys (pv 2)) (blkOk_by (N := NWt) (sc := defScope sWt) (by decide +kernel))
            (fun _ _ _ _ _ => pg_name (i := 4) scWt.nd rfl (Or.inl rfl)) (fun _ _ _ _ _ => pts_nil) (fun _ _ _ _ _ => pe_dget hu (pv 2) (pv 4) (fun _ _ => rfl)))) pa_nil)) pa_nil))) pa_nil))) (pg_name (i := 5) scWt.nd rfl (Or.inr rfl))
        (pss_one (ps_for PassesOwn.never rfl (pi_list (pe_lock (pe_lc (own := [("_law_one", 4)]) (g := gName 4) rfl scWt.nd (pi_keys (pv 2)) (blkOk_by (N := NWt) (sc := defScope sWt) (by decide +kernel))
            (fun _ _ _ _ _ => pg_name (i := 4) scWt.nd rfl (Or.inl rfl)) (fun _ _ _ _ _ => pts_one (pt_cmpR op_eq (pe_dget hu (pv 2) (pv 4) (fun _ _ => rfl)) (pv 5) (nomark _))) (fun _ _ _ _ _ => pv 4)))) (pg_name (i := 4) scWt.nd rfl (Or.inr rfl))
          (pss_cons (ps_setLc (own := [("_law_move", 7)]) (i := 6) (g := gName 7) (tt := tYes) rfl scWt.nd rfl rfl (sw_true rfl rfl rfl (by decide +kernel)) (pi_list (pe_call GM hr1 (by rfl) gM FM.kp bM .nil pass0 (pa_cons (pv 0) (pa_cons (pv 4) pa_nil)))) (blkOk_by (N := NWt) (sc := defScope sWt) (by decide +kernel))
            (fun _ _ _ _ _ => pg_name (i := 7) scWt.nd rfl (Or.inl rfl)) (fun _ _ _ _ _ => pts_nil) (fun _ _ _ _ _ => pe_call GV hr1 (by rfl) gV FV.kp bV .nil pass0 (pa_cons (pv 0) (pa_cons (pv 4) (pa_cons (pv 7) pa_nil)))))
          (pss_one (ps_dput hu (pv 3) (pv 4) (pe_callB (cr_sum rfl) (by rfl) gS (by decide +kernel) (pa_cons
            (pe_lc (own := [("_law_there", 8)]) (g := gName 8) rfl scWt.nd (pi_list (pv 6)) (blkOk_by (N := NWt) (sc := defScope sWt) (by decide +kernel))
              (fun _ _ _ _ _ => pg_name (i := 8) scWt.nd rfl (Or.inl rfl)) (fun _ _ _ _ _ => pts_one (pt_cmpR op_eq (pe_dget2 hu (pv 2) (pv 8) (pe_un un_neg pe_int) ⟨rfl, rfl, rfl, rfl⟩) (pe_op op_sub (pv 5) pe_int) (nomark _)))
              (fun _ _ _ _ _ => pe_dget hu (pv 3) (pv 8) (fun _ _ => rfl))) pa_nil)) rfl))))))
      (pss_one (ps_ret (pe_tup (pa_cons (pv 2) (pa_cons (pv 3) pa_nil))))))), ?_⟩
    have yp' := (trn.ydok yok).yp
    have yp := yok.yp
    have hB := fun i => sn_len (r := r) yp' hl n5 i
    have d25 : d + 1 ≤ 3125 := Nat.le_trans (Sn_grow d dep.ne) (hB d)
    have keyr : ∀ {H : Hp} {b : Addr} {x : Rw}, H b = some (.tup (x.map V.int)) → H b = some (.tup ((keyR x).map kV)) := fun h => by rw [keyR_kV]; exact h
    refine ⟨_, rfl, q, n, ts, rs, rfl, hy, yok, fun q' ts2 rs2 H1 hy1 trn2 s1 => ?_⟩
    obtain ⟨e1, e2⟩ := trn.uniq trn2
    subst e1 e2
    refine ⟨_, rfl, _, _, rfl, rfl, cpow6, q', s, n, d, ts', rs', r, _, rfl, hy1, yp', n5, s1 _ _ hs, hl, dep, (by decide), fun g kvr H2 ng eg hk s2 => ?_⟩
    refine gset_go (σ' := [some (.ref q), some (.ref s), some (.ref g), none, none, none, none, none, none]) rfl ?_
    dsimp only
    have s12 := s1.trans s2
    have nd : ((dW (stepsV ts' rs') r d).map (·.1)).Nodup := by rw [dW_keys]; exact Sn_nodup d
    have lkv : kvr.length ≤ 3125 := by rw [hk.len, ← List.length_map (f := (·.1)), dW_keys]; exact hB d
    have lW : (dW (stepsV ts' rs') r d).length ≤ 3125 := by rw [← hk.len]; exact lkv
    have kd := hk.keysD
    have ndK : (kvr.map (·.1)).Nodup := by
      rw [keysD_map kd]
      exact List.Pairwise.map _ (fun a b n z => n (keyR_inj z)) nd
    refine fun c nc => ⟨_, rfl, s, keyR r, rfl, keyr (Same.new (o := .dT []) nc _ _ (s12 _ _ hs)), upd_same, ?_⟩
    have s0 : Same H2 (upd (upd H2 c (.dT [])) c (.dT [(keyR r, V.int 1)])) := Same.upd_new (Same.new nc) nc
    have ec0 : (upd (upd H2 c (.dT [])) c (.dT [(keyR r, V.int 1)])) c = some (.dT [(keyR r, V.int 1)]) := upd_same
    have ncH := Same.none s12 nc
    have gc : g ≠ c := ne_of_none eg nc
    generalize upd (upd H2 c (.dT [])) c (.dT [(keyR r, V.int 1)]) = H3 at s0 ec0 ⊢
    refine gset_go (σ' := [some (.ref q), some (.ref s), some (.ref g), some (.ref c), none, none, none, none, none]) rfl ?_
    dsimp only
    have eg0 := s0 _ _ eg
    have s13 := s12.trans s0
    refine ⟨g, .dT kvr, eg0, trivial, fun od => ?_⟩
    refine ⟨_, rfl, g, od, rfl, .inr ⟨kvr, upd_same, fun D nD => ?_⟩⟩
    have eg1 : (upd H3 g (.frz od (.dT kvr))) g = some (.frz od (.dT kvr)) := upd_same
    have b1 : ∀ b o, b ≠ g → H3 b = some o → (upd H3 g (.frz od (.dT kvr))) b = some o := fun b o n e => by rw [upd_ne n]; exact e
    generalize upd H3 g (.frz od (.dT kvr)) = H4 at eg1 b1 nD ⊢
    have Dg : D ≠ g := fun z => by rw [z, eg1] at nD; cases nD
    have nD1 : H3 D = none := by
      cases e : H3 D with
      | none => rfl
      | some o => rw [b1 D o Dg e] at nD; cases nD
    refine lc_it walk_keysT (fun j H' => H' D = some (.lst ((((dW (stepsV ts' rs') r d).take j).map (·.2)).map V.int)) ∧ H' g = some (.frz od (.dT kvr)) ∧ (∀ b o, b ≠ g → H3 b = some o → H' b = some o))
      ⟨upd_same, by rw [upd_ne (Ne.symm Dg)]; exact eg1, fun b o n e => by rw [upd_ne (ne_of_none e nD1)]; exact b1 b o n e⟩ (fun j H' _ h => h.2.1) ?_ ?_
    · rintro j y H5 H5' hj ⟨eD, eg3, b3⟩ ⟨rfl, key, val, ka, hkv, rfl, eka⟩
      obtain ⟨p, ep, hkey, rfl⟩ := par_get hk hkv
      obtain rfl : key = keyR p.1 := hkey
      refine ⟨rfl, yes_if ?_⟩
      have jl := (List.getElem?_eq_some_iff.mp ep).1
      refine ⟨_, rfl, _, rfl, g, .int p.2, rfl, .inr ⟨kvr, keyR p.1, ka, .inr ⟨od, eg3⟩, rfl, eka, (valV_nth ndK hkv).symm⟩, _, eD, ?_, ?_, by rw [upd_ne (Ne.symm Dg)]; exact eg3, fun b o n e => by rw [upd_ne (ne_of_none e nD1)]; exact b3 b o n e⟩
      · rw [List.length_map, List.length_map, List.length_take]
        exact Nat.lt_of_le_of_lt (by omega : _ ≤ 3125) (by decide)
      · rw [upd_same, take_next ep, List.map_append, List.map_append]
        rfl
    rintro H5 ⟨eD, eg3, b3⟩
    rw [hk.len, List.take_length] at eD
    refine ⟨eg3, ?_⟩
    have s3 : Same H3 (upd H5 g (.dT kvr)) := fun b o e => by
      by_cases c : b = g
      · rw [c] at e ⊢
        rw [upd_same, ← eg0, e]
      · rw [upd_ne c]
        exact b3 b o c e
    have eD4 : (upd H5 g (.dT kvr)) D = some (.lst (((dW (stepsV ts' rs') r d).map (·.2)).map V.int)) := by rw [upd_ne Dg]; exact eD
    generalize upd H5 g (.dT kvr) = H6 at s3 eD4 ⊢
    refine ⟨D, _, rfl, .inl (SqL.of eD4), fun l nl => ?_⟩
    refine ⟨l, _, rfl, SqL.of upd_same, ?_, fun m hm hle => ?_⟩
    · rw [List.length_map]
      have : (r, ((0 : Nat) : Int)) ∈ dW (stepsV ts' rs') r d := dW_mem (i := 0) (List.mem_singleton.mpr rfl) (Nat.zero_le _)
      exact List.length_pos_of_mem this
    have md : m = ((d : Nat) : Int) := by
      obtain ⟨p, hp, rfl⟩ := List.mem_map.mp hm
      obtain ⟨i, hi, _, hi2⟩ := dW_of hp
      obtain ⟨x, hx⟩ := List.exists_mem_of_ne_nil _ (dep.ne d (Nat.le_refl d))
      have := hle _ (List.mem_map.mpr ⟨_, dW_mem hx (Nat.le_refl d), rfl⟩)
      rw [hi2] at this ⊢
      have : ((d : Nat) : Int) ≤ (i : Nat) := this
      omega
    subst md
    have s4 := (s13.trans s3).trans (Same.new (o := .lst (((dW (stepsV ts' rs') r d).map (·.2)).map V.int)) nl)
    have eg5 := Same.new (o := .lst (((dW (stepsV ts' rs') r d).map (·.2)).map V.int)) nl _ _ (s3 _ _ eg0)
    have ec5 := Same.new (o := .lst (((dW (stepsV ts' rs') r d).map (·.2)).map V.int)) nl _ _ (s3 _ _ ec0)
    generalize upd H6 l (.lst (((dW (stepsV ts' rs') r d).map (·.2)).map V.int)) = H7 at s4 eg5 ec5 ⊢
    refine ⟨_, _, rfl, rfl, _, _, rfl, ⟨by decide, by decide, by omega, by omega⟩, ?_⟩
    rw [show ((1 : Int) + ((d : Nat) : Int) - 1).toNat = d by omega]
    refine for_range (lo := 1) (n := d) (fun k σ H' => ∃ (v4 v5 v6 : Option V) (kvs : List (List Key × V)), σ = [some (.ref q), some (.ref s), some (.ref g), some (.ref c), v4, v5, v6, none, none] ∧ H' g = some (.dT kvr) ∧ H' c = some (.dT kvs) ∧ KVs IntK kvs (cW (stepsV ts' rs') r k) ∧ Same H H')
      ⟨none, none, none, _, rfl, eg5, ec5, .cons ⟨rfl, rfl⟩ .nil, s4⟩ ?_ ?_
    · rintro k σ H8 hk1 ⟨v4, v5, v6, kvs, rfl, eg6, ec6, ck, s6⟩
      refine gset_go (σ' := [some (.ref q), some (.ref s), some (.ref g), some (.ref c), v4, some (.int (1 + (k : Int))), v6, none, none]) rfl ?_
      refine ⟨g, .dT kvr, eg6, trivial, fun od2 => ?_⟩
      refine ⟨_, rfl, g, od2, rfl, .inr ⟨kvr, upd_same, fun F nF => ?_⟩⟩
      have eg7 : (upd H8 g (.frz od2 (.dT kvr))) g = some (.frz od2 (.dT kvr)) := upd_same
      have b7 : ∀ b o, b ≠ g → H8 b = some o → (upd H8 g (.frz od2 (.dT kvr))) b = some o := fun b o n e => by rw [upd_ne n]; exact e
      generalize upd H8 g (.frz od2 (.dT kvr)) = H9 at eg7 b7 nF ⊢
      have Fg : F ≠ g := fun z => by rw [z, eg7] at nF; cases nF
      have nF6 : H8 F = none := by
        cases e : H8 F with
        | none => rfl
        | some o => rw [b7 F o Fg e] at nF; cases nF
      refine lc_it walk_keysT (fun j H' => ∃ ws, H' F = some (.lst ws) ∧ Paired (RowV H') ws (atD (k + 1) ((dW (stepsV ts' rs') r d).take j)) ∧ ws.length ≤ j ∧ H' g = some (.frz od2 (.dT kvr)) ∧ (∀ b o, b ≠ g → H8 b = some o → H' b = some o))
        ⟨[], upd_same, .nil, Nat.zero_le _, by rw [upd_ne (Ne.symm Fg)]; exact eg7, fun b o n e => by rw [upd_ne (ne_of_none e nF6)]; exact b7 b o n e⟩ (fun j H' _ ⟨_, _, _, _, e, _⟩ => e) ?_ ?_
      · rintro j y HA HA' hj ⟨ws, eF, pw, lw, eg8, b8⟩ ⟨rfl, key, val, ka, hkv, rfl, eka⟩
        obtain ⟨p, ep, hkey, rfl⟩ := par_get hk hkv
        obtain rfl : key = keyR p.1 := hkey
        have jl := (List.getElem?_eq_some_iff.mp ep).1
        refine ⟨rfl, ?_⟩
        refine ⟨_, rfl, _, rfl, g, .int p.2, rfl, .inr ⟨kvr, keyR p.1, ka, .inr ⟨od2, eg8⟩, rfl, eka, (valV_nth ndK hkv).symm⟩, _, rfl, rfl, _, rfl, ?_⟩
        rw [take_next ep, atD_snoc]
        by_cases cp : p.2 = ((k + 1 : Nat) : Int)
        · refine iteT' (decide_eq_true (by rw [cp]; congr 1; omega)) ?_
          refine ⟨_, rfl, ws, eF, Nat.lt_of_le_of_lt (by omega : ws.length ≤ 3125) (by decide), ws ++ [V.ref ka], upd_same, ?_, by rw [List.length_append]; exact Nat.succ_le_succ lw, by rw [upd_ne (Ne.symm Fg)]; exact eg8, fun b o n e => by rw [upd_ne (ne_of_none e nF6)]; exact b8 b o n e⟩
          rw [if_pos cp]
          have up : ∀ b xs, HA' b = some (.tup xs) → (upd HA' F (.lst (ws ++ [V.ref ka]))) b = some (.tup xs) := fun b xs e => by rw [upd_ne (ne_of e eF (by intro z; cases z))]; exact e
          exact par_snoc (par_map (fun v x h => h.kp fun b xs e => up b _ e) pw) ⟨ka, rfl, up _ _ (by rw [eka, keyR_kV])⟩
        · refine iteF' (decide_eq_false (fun z => cp (by injection z with z; rw [z]; omega))) ?_
          rw [if_neg cp]
          exact ⟨ws, eF, pw, by omega, eg8, b8⟩
      rintro HA ⟨ws, eF, pw, lw, eg8, b8⟩
      rw [hk.len, List.take_length, atD_dW (by omega : k + 1 ≤ d)] at pw
      refine ⟨eg8, ?_⟩
      have s8 : Same H8 (upd HA g (.dT kvr)) := fun b o e => by
        by_cases c : b = g
        · rw [c] at e ⊢
          rw [upd_same, ← eg6, e]
        · rw [upd_ne c]
          exact b8 b o c e
      have eF9 : (upd HA g (.dT kvr)) F = some (.lst ws) := by rw [upd_ne Fg]; exact eF
      have pw9 : Paired (RowV (upd HA g (.dT kvr))) ws (Ly (stepsV ts' rs') r (k + 1)) := par_map (fun v x h => h.kp fun b xs e => by rw [upd_ne (ne_of e eg8 (by intro z; cases z))]; exact e) pw
      have eg9 : (upd HA g (.dT kvr)) g = some (.dT kvr) := upd_same
      have ec9 := s8 _ _ ec6
      generalize upd HA g (.dT kvr) = HB at s8 eF9 pw9 eg9 ec9 ⊢
      have lws : ws.length = (Ly (stepsV ts' rs') r (k + 1)).length := Paired.length pw9
      have Fc : F ≠ c := ne_of eF9 ec9 (by intro z; cases z)
      have s68 := s6.trans s8
      refine ⟨F, rfl, ⟨_, SqL.of eF9⟩, ?_⟩
      refine for_list (K := K) (a := F) (xs := ws) (fun j σ H' => ∃ (v4 v6 : Option V) (kvs : List (List Key × V)), σ = [some (.ref q), some (.ref s), some (.ref g), some (.ref c), v4, some (.int (1 + (k : Int))), v6, none, none] ∧ H' g = some (.dT kvr) ∧ H' c = some (.dT kvs) ∧
          KVs IntK kvs (cW (stepsV ts' rs') r k ++ ((Ly (stepsV ts' rs') r (k + 1)).take j).map fun x => (x, cnt (stepsV ts' rs') r (k + 1) x)) ∧ H' F = some (.lst ws) ∧ (∀ b xs, HB b = some (.tup xs) → H' b = some (.tup xs)) ∧ Same H H')
        ⟨v4, v6, kvs, rfl, eg9, ec9, by rw [List.take_zero, List.map_nil, List.append_nil]; exact ck, eF9, fun _ _ e => e, s68⟩ (fun j σ H' _ ⟨_, _, _, _, _, _, _, e, _⟩ => SqL.of e) ?_ ?_
      · rintro j v σ HC hv ⟨v4, v6, kvs, rfl, egC, ecC, hkc, eFC, kC, sC⟩
        obtain ⟨x, ex, xa, rfl, hxa9⟩ := par_get pw9 hv
        have mx := List.mem_of_getElem? ex
        have px := ly_perm yp' hl (k + 1) x mx
        have lx : x.length = n := by rw [px.length_eq, hl]
        have hxa := kC _ _ hxa9
        refine gset_go (σ' := [some (.ref q), some (.ref s), some (.ref g), some (.ref c), some (.ref xa), some (.int (1 + (k : Int))), v6, none, none]) rfl ?_
        refine ⟨_, rfl, _, rfl, q, xa, n, ts, rs, x, rfl, hy.kp (.of_same sC), Nat.le_trans yp.tl (by decide), Nat.le_trans yp.rl (by decide), yp.tok, SqT.of hxa, lx, fun lm ms HD nlm elm pms sD => ⟨lm, rfl, ⟨_, SqL.of elm⟩, fun E1 nE1 => ?_⟩⟩
        have lms : ms.length = (movesOf ts rs x).length := Paired.length pms
        have l120 : (movesOf ts rs x).length ≤ 120 := by
          have := steps_len yp x
          unfold stepsV at this
          rwa [List.length_map] at this
        refine lc_list (K := K) (a := lm) (xs := ms) (fun m H' => ∃ es, H' E1 = some (.lst es) ∧ Paired (RowV H') es (((movesOf ts rs x).take m).map (stepMv rs x)) ∧ es.length = m ∧ Same HD H') ⟨[], upd_same, .nil, rfl, Same.new nE1⟩ (fun m H' _ ⟨_, _, _, _, s⟩ => SqL.of (s _ _ elm)) (fun m v HE hv h => ?_) (fun HE h => ?_)
        · obtain ⟨es, eE, pe, le, sE⟩ := h
          obtain ⟨mv, emv, hmv⟩ := par_get pms hv
          have hm : m < ms.length := (List.getElem?_eq_some_iff.mp hv).1
          have cn := can_of_mem (n := n) yp.tok (List.mem_of_getElem? emv)
          have sDE := sD.trans sE
          refine ⟨rfl, yes_if ?_⟩
          refine ⟨_, rfl, _, rfl, _, rfl, q, xa, v, n, ts, rs, x, mv, rfl, hy.kp (.of_same (sC.trans sDE)), by omega, yp.rok, SqT.of (sDE _ _ hxa), lx, hmv.kp (.of_same sE), cn, fun t HF et sF => ?_⟩
          have eEF := sF _ _ eE
          refine ⟨es, eEF, Nat.lt_of_le_of_lt (by omega : es.length ≤ 120) (by decide), es ++ [.ref t], upd_same, ?_, by rw [List.length_append, le]; rfl, Same.upd_new (sE.trans sF) nE1⟩
          rw [take_next emv, List.map_append]
          have up : ∀ b xs, HF b = some (.tup xs) → (upd HF E1 (.lst (es ++ [.ref t]))) b = some (.tup xs) := fun b xs e => by rw [upd_ne (ne_of e eEF (by intro z; cases z))]; exact e
          exact par_snoc (par_map (fun v z h => h.kp fun b xs e => up _ _ (sF _ _ e)) pe) ⟨t, rfl, up _ _ et⟩
        obtain ⟨es, eE, pe, le, sE⟩ := h
        rw [lms, List.take_length] at pe
        have sDE := sD.trans sE
        have eE0 : (movesOf ts rs x).map (stepMv rs x) = (stepsV ts rs x).map fun s => s.2 := by
          unfold stepsV
          rw [List.map_map]
          rfl
        rw [eE0] at pe
        refine gset_go (σ' := [some (.ref q), some (.ref s), some (.ref g), some (.ref c), some (.ref xa), some (.int (1 + (k : Int))), some (.ref E1), none, none]) rfl ?_
        dsimp only
        have egE := sDE _ _ egC
        have ecE := sDE _ _ ecC
        have exE := sDE _ _ hxa
        have les : es.length = ((stepsV ts rs x).map fun s => s.2).length := Paired.length pe
        have l120' : es.length ≤ 120 := by omega
        -- the counts that stand
        have ndk : ((cW (stepsV ts' rs') r k ++ ((Ly (stepsV ts' rs') r (k + 1)).take j).map fun x => (x, cnt (stepsV ts' rs') r (k + 1) x)).map (·.1)).Nodup := by
          have nd := Sn_nodup (S := stepsV ts' rs') (r := r) (k + 1)
          rw [Sn_succ, ← List.take_append_drop j (Ly (stepsV ts' rs') r (k + 1)), ← List.append_assoc] at nd
          rw [List.map_append, cW_keys, List.map_map]
          rw [show ((Ly (stepsV ts' rs') r (k + 1)).take j).map ((fun p : Rw × Int => p.1) ∘ fun x => (x, cnt (stepsV ts' rs') r (k + 1) x)) = (Ly (stepsV ts' rs') r (k + 1)).take j from List.map_id _]
          exact (List.nodup_append.mp nd).1
        have hxn : x ∉ (cW (stepsV ts' rs') r k ++ ((Ly (stepsV ts' rs') r (k + 1)).take j).map fun x => (x, cnt (stepsV ts' rs') r (k + 1) x)).map (·.1) := by
          have nd := Sn_nodup (S := stepsV ts' rs') (r := r) (k + 1)
          rw [Sn_succ, ← List.take_append_drop (j + 1) (Ly (stepsV ts' rs') r (k + 1)), take_next ex, ← List.append_assoc, ← List.append_assoc, List.append_assoc] at nd
          rw [List.map_append, cW_keys, List.map_map]
          rw [show ((Ly (stepsV ts' rs') r (k + 1)).take j).map ((fun p : Rw × Int => p.1) ∘ fun x => (x, cnt (stepsV ts' rs') r (k + 1) x)) = (Ly (stepsV ts' rs') r (k + 1)).take j from List.map_id _]
          exact fun z => (List.nodup_append.mp nd).2.2 x z x (by simp) rfl
        refine ⟨_, rfl, E1, rfl, ⟨_, SqL.of eE⟩, fun D2 nD2 => ?_⟩
        refine lc_list (K := K) (a := E1) (xs := es) (fun m H' => H' D2 = some (.lst ((((((stepsV ts rs x).map fun s => s.2).take m).filter fun y => decide (y ∈ Ly (stepsV ts' rs') r k)).map fun y => cnt (stepsV ts' rs') r k y).map V.int)) ∧ Same HE H') ⟨upd_same, Same.new nD2⟩ (fun m H' _ h => SqL.of (h.2 _ _ eE)) (fun m v HF hv h => ?_) (fun HF h => ?_)
        · obtain ⟨eD2, sF⟩ := h
          obtain ⟨y, ey, ya, rfl, hya⟩ := par_get pe hv
          have hm : m < es.length := (List.getElem?_eq_some_iff.mp hv).1
          have eyF := sF _ _ hya
          have egF := sF _ _ egE
          have ecF := sF _ _ ecE
          refine ⟨rfl, ?_⟩
          refine ⟨_, rfl, g, rfl, .inr ⟨kvr, .inl egF⟩, _, rfl, 1, rfl, valV kvr (keyR y), DGet.t egF (keyr eyF), _, rfl, _, _, rfl, rfl, ?_⟩
          rw [take_next ey, filter_snoc]
          by_cases c2 : y ∈ Ly (stepsV ts' rs') r k
          · obtain ⟨w1, hw1, rfl⟩ := hk.at nd (dW_mem c2 (by omega : k ≤ d))
            have hw1 : valV kvr (keyR y) = some (.int (k : Nat)) := hw1
            rw [hw1]
            refine ⟨rfl, _, rfl, iteT' (decide_eq_true (by show V.int (k : Nat) = V.int _; congr 1; omega)) ?_⟩
            obtain ⟨w2, hw2, rfl⟩ := hkc.at ndk (p := (y, cnt (stepsV ts' rs') r k y)) (List.mem_append_left _ (cW_mem c2 (Nat.le_refl k)))
            have hw2 : valV kvs (keyR y) = some (.int (cnt (stepsV ts' rs') r k y)) := hw2
            refine ⟨_, rfl, _, rfl, c, _, rfl, hw2 ▸ DGet.t ecF (keyr eyF), _, eD2, ?_, ?_, Same.upd_new sF nD2⟩
            · rw [List.length_map, List.length_map]
              have h1 := List.length_filter_le (fun y => decide (y ∈ Ly (stepsV ts' rs') r k)) (((stepsV ts rs x).map fun s => s.2).take m)
              rw [List.length_take] at h1
              exact Nat.lt_of_le_of_lt (by omega : _ ≤ 120) (by decide)
            · rw [upd_same, decide_eq_true c2, if_pos rfl, List.map_append, List.map_append]
              rfl
          · have hz : ∃ z : Int, (valV kvr (keyR y)).getD (.int (-1)) = .int z ∧ z ≠ (k : Int) := by
              by_cases c3 : y ∈ Sn (stepsV ts' rs') r d
              · obtain ⟨i2, hi2, hx2⟩ := Sn_mem d _ c3
                obtain ⟨w1, hw1, rfl⟩ := hk.at nd (dW_mem hx2 hi2)
                have hw1 : valV kvr (keyR y) = some (.int (i2 : Nat)) := hw1
                refine ⟨(i2 : Nat), by rw [hw1]; rfl, fun z => c2 ?_⟩
                have : i2 = k := by omega
                rw [← this]
                exact hx2
              · have : valV kvr (keyR y) = none := hk.none (by rw [dW_keys]; exact c3)
                exact ⟨-1, by rw [this]; rfl, by omega⟩
            obtain ⟨z, hz1, hz2⟩ := hz
            rw [hz1]
            refine ⟨rfl, _, rfl, iteF' (decide_eq_false (fun e => hz2 (by injection e with e; rw [e]; omega))) ?_⟩
            rw [decide_eq_false c2, if_neg Bool.false_ne_true]
            exact ⟨eD2, sF⟩
        · obtain ⟨eD2, sF⟩ := h
          rw [les, List.take_length] at eD2
          refine ⟨D2, _, rfl, SqL.of eD2, ?_⟩
          have lkv2 : kvs.length ≤ 3125 := by
            rw [hkc.len, ← List.length_map (f := (·.1)), List.map_append, cW_keys, List.map_map, List.length_append, List.length_map, List.length_take]
            have := hB (k + 1)
            rw [Sn_succ, List.length_append] at this
            omega
          have ecF := sF _ _ ecE
          have s9 := sDE.trans sF
          refine ⟨_, rfl, _, rfl, c, _, rfl, DPut.t ecF (keyr (s9 _ _ hxa)) (Nat.lt_of_le_of_lt lkv2 (by decide)), ?_⟩
          refine ⟨_, _, _, rfl, by rw [upd_ne gc]; exact s9 _ _ egC, upd_same, ?_, by rw [upd_ne Fc]; exact s9 _ _ eFC, fun b xs e => ?_, Same.upd_new (sC.trans s9) ncH⟩
          · rw [take_next ex, List.map_append, ← List.append_assoc]
            rw [← cnt_step trn yp' hl lx]
            exact hkc.snoc hxn rfl
          · rw [upd_ne (ne_of (s9 _ _ (kC _ _ e)) ecF (by intro z; cases z))]
            exact s9 _ _ (kC _ _ e)
      · rintro σ HC ⟨v4, v6, kvs, rfl, egC, ecC, hkc, eFC, kC, sC⟩
        rw [lws, List.take_length] at hkc
        exact ⟨_, _, _, kvs, rfl, egC, ecC, hkc, sC⟩
    · rintro σ H8 ⟨v4, v5, v6, kvs, rfl, eg6, ec6, ck, s6⟩
      refine ⟨_, rfl, _, rfl, (by show 2 ≤ sizeLine; decide), fun t nt => ?_⟩
      have st := Same.new (o := .tup [.ref g, .ref c]) nt
      exact fin t g c kvr kvs _ upd_same (st _ _ eg6) hk (st _ _ ec6) ck (s6.trans st)
end
end Y
set_option Elab.async false
set_option linter.all false
set_option maxRecDepth 100000
set_option maxHeartbeats 4000000
namespace Y
open PySem L2
/-! ### _law_row_right -/
abbrev sRr : Stmt := top 54
abbrev NRr : List Str := ["_law_yard", "_law_goal", "_law_far", "_law_counts", "_law_stand", "_law_told", "_law_here", "_law_move"]
theorem mv_in {m : Mv} {ms : List Mv} (h : m ∈ ms) : (ms.map mvD).any (fun z => PyData.eqv z (mvD m)) = true := by
  rw [List.any_eq_true]
  exact ⟨mvD m, List.mem_map.mpr ⟨m, h, rfl⟩, mv_self m⟩
theorem mv_shaped (m : Mv) : SeqAt.shaped (mvD m) = true := by
  unfold SeqAt.shaped
  rw [mv_lay m, decide_eq_true (Nat.le_trans (mv_depth m) (by decide))]
  rfl
theorem u65_of {k : Nat} {A : Around} (h : Room k A) : A.units + 65 < cLine := by
  have := h.un
  omega
def spRr (K : PySem.W.Frag) : Sp := fun vs H Q _ => ∃ (q s g c a t : Addr) (n d k : Nat) (ts ts' : List (Int × Int)) (rs rs' : List (List Int)) (r x : Rw) (kvf kvc : List (List Key × V)) (ys : List V) (ms : List Mv), vs = [.ref q, .ref s, .ref g, .ref c, .ref a, .ref t] ∧ YdAt K H q n ts rs ∧ YdOk n ts rs ∧ n ≤ 5 ∧
  H s = some (.tup (r.map V.int)) ∧ r.length = n ∧ Trn n ts rs ts' rs' ∧ H g = some (.dT kvf) ∧ KVs IntK kvf (dW (stepsV ts' rs') r d) ∧ H c = some (.dT kvc) ∧ KVs IntK kvc (cW (stepsV ts' rs') r d) ∧ H a = some (.tup (x.map V.int)) ∧ x ∈ Ly (stepsV ts' rs') r k ∧ k ≤ d ∧ H t = some (.tup ys) ∧ MvsAt K H ys ms ∧
  RightR (stepsV ts rs) (stepsV ts' rs') r k x ms ∧ ∀ H', Same H H' → Q (.bl true) H'
section
variable {P : Program} {w : World} {K : PySem.W.Frag} {mg : Str → Option Value} {base : Heap} {fDraw fMs fMd : Addr}
theorem scRr : FnScope NRr ["_law_yard", "_law_goal", "_law_far", "_law_counts", "_law_stand", "_law_told"] (defScope sRr) := ⟨rfl, rfl, rfl, by decide +kernel, rfl, by decide +kernel, by decide +kernel⟩
theorem ok_rr {f : Addr} {fd fdM fdV : FuncData} (F : Fun K "_law_row_right" "_law_row_right" sRr f fd) (T : TG K mg fDraw) (TI : TI0 mg)
    (gM : mg "_law_moves" = some (.ref fMs)) (GM : FnOk P w K mg base CX0 1 fMs fdM ["_law_yard", "_law_stand"] (spMovesN K)) (FM : Fun K "_law_moves" "_law_moves" sMoves fMs fdM) (bM : Binds K fdM ["_law_yard", "_law_stand"] [])
    (gV : mg "_law_moved" = some (.ref fMd)) (GV : FnOk P w K mg base CX0 1 fMd fdV ["_law_yard", "_law_stand", "_law_move"] (spMoved K)) (FV : Fun K "_law_moved" "_law_moved" sMoved fMd fdV) (bV : Binds K fdV ["_law_yard", "_law_stand", "_law_move"] []) :
    FnOk P w K mg base CX0 2 f fd ["_law_yard", "_law_goal", "_law_far", "_law_counts", "_law_stand", "_law_told"] (spRr K) := by
  refine F.ok scRr (fun vs H Q E h => ?_) (fun cdv A outer s H vs Q E hr h => ?_)
  · obtain ⟨q, s, g, c, a, t, n, d, k, ts, ts', rs, rs', r, x, kvf, kvc, ys, ms, rfl, _⟩ := h
    rfl
  · obtain ⟨q, s, g, c, a, t, n, d, k, ts, ts', rs, rs', r, x, kvf, kvc, ys, ms, rfl, hy, yok, n5, hs, hl, trn, eg, hkf, ec, hkc, ea, hx, kd, et, hms, hR, fin⟩ := h
    have hu := hu_of hr
    have hu64 := hr.units
    have hr1 : Room 1 _ := hr.mono (by decide)
    have hu65 := u65_of hr
    refine ⟨_, pss_cons (ps_if (PW.pt (pw_or (pt_not (pt_val (pe_callB call_isi (by rfl) TI.isi (by decide +kernel) (pa_cons (pv 5) (pa_cons (pbT (n := "tuple") TI.tuple (by decide +kernel)) pa_nil))))) (pw_or1 (pt_cmpR op_ne (pe_callB call_len_seq (by rfl) T.p.len PySem.boot_len (pa_cons (pv 5) pa_nil)) (pe_dget hu (pv 2) (pv 4) (fun _ _ => rfl)) (nomark _))))) (pss_one (ps_ret pe_bl)) pss_nil)
      (pss_cons (ps_set (i := 6) scRr.nd rfl (Or.inl rfl) (pv 4))
      (pss_cons (ps_for PassesOwn.never rfl (pi_tup (pv 5)) (pg_name (i := 7) scRr.nd rfl (Or.inl rfl))
        (pss_cons (ps_if (PW.pt (pw_or (pt_cmpR op_ne (pe_dget hu (pv 3) (pv 6) (fun _ _ => rfl)) pe_int (nomark _)) (pw_or1 (pt_cmpR (op_notInD hu65) (pv 7) (pe_call GM hr1 (by rfl) gM FM.kp bM .nil pass0 (pa_cons (pv 0) (pa_cons (pv 6) pa_nil))) (by rfl))))) (pss_one (ps_ret pe_bl)) pss_nil)
        (pss_one (ps_set (i := 6) scRr.nd rfl (Or.inl rfl) (pe_call GV hr1 (by rfl) gV FV.kp bV .nil pass0 (pa_cons (pv 0) (pa_cons (pv 6) (pa_cons (pv 7) pa_nil))))))))
      (pss_one (ps_ret (pe_cmpR (RwD.op_eqR (K := K) rfl hu64) (pv 6) (pv 1) (nomark _)))))), ?_⟩
    have yp := yok.yp
    have yp' := (trn.ydok yok).yp
    have keyr : ∀ {H : Hp} {b : Addr} {x : Rw}, H b = some (.tup (x.map V.int)) → H b = some (.tup ((keyR x).map kV)) := fun h => by rw [keyR_kV]; exact h
    have ndF : ((dW (stepsV ts' rs') r d).map (·.1)).Nodup := by rw [dW_keys]; exact Sn_nodup d
    have ndC : ((cW (stepsV ts' rs') r d).map (·.1)).Nodup := by rw [cW_keys]; exact Sn_nodup d
    have lms : ms.length = k := hR.len
    have lys : ys.length = k := by rw [Paired.length hms, lms]
    obtain ⟨w1, hw1, rfl⟩ := hkf.at ndF (dW_mem hx kd)
    have hw1 : valV kvf (keyR x) = some (.int (k : Nat)) := hw1
    refine ⟨_, rfl, _, _, _, _, true, rfl, ClsV.ty _, ty_tup (SqT.of et), kit_ty (by decide +kernel), _, rfl, ?_⟩
    refine iteF' rfl ?_
    refine ⟨_, rfl, t, ys, rfl, .inr (SqT.of et), _, rfl, _, rfl, g, _, rfl, hw1 ▸ DGet.t eg (keyr ea), rfl, _, rfl, ?_⟩
    rw [lys]
    refine iteF' (by rw [decide_eq_true rfl]; rfl) ?_
    refine ⟨_, rfl, ?_⟩
    refine gset_go (σ' := [some (.ref q), some (.ref s), some (.ref g), some (.ref c), some (.ref a), some (.ref t), some (.ref a), none]) rfl ?_
    dsimp only
    refine ⟨_, rfl, t, rfl, ⟨_, SqT.of et⟩, ?_⟩
    refine for_it (walk_tup (K := K) (a := t) (xs := ys)) (fun j σ H' => ∃ (v7 : Option V) (b : Addr) (y : Rw), σ = [some (.ref q), some (.ref s), some (.ref g), some (.ref c), some (.ref a), some (.ref t), some (.ref b), v7] ∧ H' b = some (.tup (y.map V.int)) ∧ y.length = n ∧ RightR (stepsV ts rs) (stepsV ts' rs') r (k - j) y (ms.drop j) ∧ Same H H')
      ⟨none, a, x, rfl, ea, by rw [(ly_perm yp' hl k x hx).length_eq, hl], hR, Same.refl' _⟩ (fun j σ H' _ ⟨_, _, _, _, _, _, _, s⟩ => SqT.of (s _ _ et)) ?_ ?_
    · rintro j v σ H1 H1' hj ⟨v7, b, y, rfl, eb, ly, hRj, s1⟩ ⟨rfl, hv⟩
      obtain ⟨m, em, hmv⟩ := par_get hms hv
      rw [lys] at hj
      obtain ⟨i, hi⟩ : ∃ i, k - j = i + 1 := ⟨k - j - 1, by omega⟩
      have edrop : ms.drop j = m :: ms.drop (j + 1) := by
        have h1 := (List.getElem?_eq_some_iff.mp em)
        rw [List.drop_eq_getElem_cons h1.1, h1.2]
      rw [hi, edrop] at hRj
      obtain ⟨hy1, hc1, p, hp, hRp⟩ := hRj
      obtain ⟨hmo, ep⟩ := mem_steps.mp hp
      have cn := can_of_mem (n := n) yp.tok hmo
      obtain ⟨w2, hw2, rfl⟩ := hkc.at ndC (cW_mem hy1 (by omega : i + 1 ≤ d))
      have hw2 : valV kvc (keyR y) = some (.int (cnt (stepsV ts' rs') r (i + 1) y)) := hw2
      refine gset_go (σ' := [some (.ref q), some (.ref s), some (.ref g), some (.ref c), some (.ref a), some (.ref t), some (.ref b), some v]) rfl ?_
      refine ⟨_, rfl, _, rfl, c, _, rfl, hw2 ▸ DGet.t (s1 _ _ ec) (keyr eb), rfl, _, rfl, ?_⟩
      refine iteF' (by show (!decide (V.int (cnt (stepsV ts' rs') r (i + 1) y) = V.int 1)) = false; rw [hc1, decide_eq_true rfl]; rfl) ?_
      refine ⟨_, rfl, _, rfl, _, rfl, q, b, n, ts, rs, y, rfl, hy.kp (.of_same s1), Nat.le_trans yp.tl (by decide), Nat.le_trans yp.rl (by decide), yp.tok, SqT.of eb, ly, fun lm mvs H2 nlm elm pmv s2 => ?_⟩
      refine ⟨mvD m, (movesOf ts rs y).map mvD, mv_dp (hmv.kp (.of_same (s1.trans s2))), .lst (SqL.of elm) (mvs_dp pmv), mv_shaped m, mvs_shapedL _, _, rfl, ?_⟩
      refine iteF' (by rw [mv_in hmo]; rfl) ?_
      have s12 := s1.trans s2
      refine ⟨_, rfl, _, rfl, _, rfl, q, b, v, n, ts, rs, y, m, rfl, hy.kp (.of_same s12), by omega, yp.rok, SqT.of (s2 _ _ eb), ly, hmv.kp (.of_same s12), cn, fun t2 H3 et2 s3 => ?_⟩
      refine gset_go (σ' := [some (.ref q), some (.ref s), some (.ref g), some (.ref c), some (.ref a), some (.ref t), some (.ref t2), some v]) rfl ?_
      refine ⟨_, t2, stepMv rs y m, rfl, et2, by rw [stepMv_len, ly], ?_, s12.trans s3⟩
      rw [show k - (j + 1) = i by omega, ← ep]
      exact hRp
    · rintro σ H1 ⟨v7, b, y, rfl, eb, ly, hRj, s1⟩
      rw [lys, Nat.sub_self] at hRj
      obtain ⟨_, rfl⟩ := hRj
      refine ⟨_, rfl, _, rfl, y, y, ⟨b, rfl, SqT.of eb⟩, ⟨s, rfl, SqT.of (s1 _ _ hs)⟩, ?_⟩
      rw [decide_eq_true rfl]
      exact fin H1 s1
end
end Y
set_option Elab.async false
set_option linter.all false
set_option maxRecDepth 100000
set_option maxHeartbeats 4000000
namespace Y
open PySem PySem.Spec PyProof.Rows L2 LamX
/-! ### the law's lambdas -/


section
variable {X : Cx} {K : PySem.W.Frag} {c Pt fFa CU CM CN : Addr} {fdW : FuncData} {params : Arguments} {scope : Scope} {body : Expr} {te : XK → TE} {k : Nat} {p lpos pos : Pos}
theorem pe_ftX (eK : X.K = K) (hgw : Gl X "_law_fault") (gFa : X.mg "_law_fault" = some (.ref fFa)) (FW : Fun X.K "_law_fault" "_law_fault" sFa fFa fdW) (bW : Binds X.K fdW ["_law_call"] [])
    (TW : TFb X.K X.mg CU CM CN) (TB : TabB X.base X.mg c Pt) (hcode : X.env.code = .ref c) (hq : X.env.qual ++ "<lambda>" = qLam) (hr : Room (k + 2) X.A) (L : LamS X.env.scope scope) (hdef : defaultsOf params X.env = ([], []))
    (hbind : ∀ (q : Str) (cl : List (Str × Addr)) (pm cv ctv : Value), bindArgs (PySem.W.kla_fn "<lambda>" q params body scope cl pm cv ctv) ⟨[], []⟩ = pure [])
    (hbody : ∀ (A : Around) (outer : List Env) (s : Shared) (H : Hp) (E : XK) (f c' : Addr), Room k (A.deeper (lamEnv X scope s.heap.objs.size f c')) → PE (lamCx X A outer s H E scope f c') body (te E)) :
    PE X (.Call (.Name "_law_fault" p) [.Lambda params body scope lpos] [] pos) (tLam [(Pt, qLam)] (TTb K CM CN) te) := by
  obtain ⟨oc, od, kV, doc, pm, an, cdw, ct, osl, rfl, lkw, hcw⟩ := FW.ex
  exact pe_lamcall (T := [(Pt, qLam)]) (TT := TTb K CM CN) (k := k) (a := "_law_call") (Ng := NFa) hgw gFa FW.kp lkw hcw bW scFa rfl (.inl rfl) (fault_givesB eK TW) TB hcode (by rw [hq]; exact List.mem_singleton.mpr rfl) (fun p hp _ => by rw [List.mem_singleton.mp hp, hq]) hr L hdef hbind hbody
end
end Y
set_option Elab.async false
set_option linter.all false
set_option maxRecDepth 100000
set_option maxHeartbeats 4000000
namespace Y
open PySem PySem.Spec PyProof.Rows L2 LamX
/-! ### what stands in a lap of the law -/
/-- the law's names -/
abbrev sg (a p : Addr) (v2 v3 v4 v5 v6 v7 v8 v9 v10 v11 v12 v13 v14 v15 v16 v17 v18 v19 v20 v21 : Option V) : L2.St := [some (.ref a), some (.ref p), v2, v3, v4, v5, v6, v7, v8, v9, v10, v11, v12, v13, v14, v15, v16, v17, v18, v19, v20, v21, none]
theorem Ky.yd {K : PySem.W.Frag} {H H' : Hp} {q : Addr} {n : Nat} {ts : List (Int × Int)} {rs : List (List Int)} (s : Ky H H') (h : YdAt K H q n ts rs) : YdAt K H' q n ts rs := by
  obtain ⟨a, e, ys, zs, h1, h2, h3, h4, h5⟩ := h
  exact ⟨a, e, ys, zs, s.seqT h1, s.seqT h2, par_map (fun y r ⟨b, e, hb⟩ => ⟨b, e, s.seqT hb⟩) h3, s.seqT h4, par_map (fun y r ⟨b, e, hb⟩ => ⟨b, e, s.seqT hb⟩) h5⟩
/-- what is known of the yard, once and for all -/
structure YK (n d dd : Nat) (ts ts' : List (Int × Int)) (rs rs' : List (List Int)) (st : Rw) : Prop where
  ok : YdOk n ts rs
  n5 : n ≤ 5
  lst : st.length = n
  h0 : ∀ z ∈ st, 0 ≤ z ∧ z ≤ 100
  trn : Trn n ts rs ts' rs'
  dep : Dep (stepsV ts' rs') st d
  deep : Deep (stepsV ts' rs') st d dd
structure LW (K : PySem.W.Frag) (CY : Addr) (H : Hp) (q s0 x : Addr) (n : Nat) (ts : List (Int × Int)) (rs : List (List Int)) (st : Rw) : Prop where
  yd : YdAt K H q n ts rs
  yo : YObjC K H CY x n ts rs
  hs : H s0 = some (.tup (st.map V.int))
theorem LW.ky {K : PySem.W.Frag} {CY : Addr} {H H' : Hp} {q s0 x : Addr} {n : Nat} {ts : List (Int × Int)} {rs : List (List Int)} {st : Rw} (h : LW K CY H q s0 x n ts rs st) (s : Ky H H') : LW K CY H' q s0 x n ts rs st := ⟨s.yd h.yd, s.yc h.yo, s.tup h.hs⟩
/-- the dicts of the distances and of the counts, the list of the layers -/
structure LD (H : Hp) (T : StF) (st : Rw) (d : Nat) (g cc : Addr) (kvf kvc : List (List Key × V)) : Prop where
  eg : H g = some (.dT kvf)
  hf : KVs IntK kvf (dW T st d)
  ec : H cc = some (.dT kvc)
  hc : KVs IntK kvc (cW T st d)
theorem LD.ky {H H' : Hp} {T : StF} {st : Rw} {d : Nat} {g cc : Addr} {kvf kvc : List (List Key × V)} (h : LD H T st d g cc kvf kvc) (s : Ky H H') : LD H' T st d g cc kvf kvc := ⟨s.dt h.eg, h.hf, s.dt h.ec, h.hc⟩
structure LU (H : Hp) (T : StF) (st : Rw) (d : Nat) (du : Addr) (vs : List V) (Ms : List (List Rw)) : Prop where
  e : H du = some (.lst vs)
  p : Paired (RowsV H) vs Ms
  s : Paired SortedOf Ms ((List.range (d + 1)).map (Clr T st))
theorem LU.ky {H H' : Hp} {T : StF} {st : Rw} {d : Nat} {du : Addr} {vs : List V} {Ms : List (List Rw)} (h : LU H T st d du vs Ms) (s : Ky H H') : LU H' T st d du vs Ms := ⟨s.lst h.e, par_map (fun v M h => h.kp fun b xs e => s.tup e) h.p, h.s⟩
/-- the yard's data -/
def ydD (n : Nat) (ts : List (Int × Int)) (rs : List (List Int)) : PyData := .tuple [.int (n : Int), RwD.rsd (ts.map row2), RwD.rsd rs]
theorem yd_dp {K : PySem.W.Frag} {H : Hp} {q : Addr} {n : Nat} {ts : List (Int × Int)} {rs : List (List Int)} (h : YdAt K H q n ts rs) : Dp K H (.ref q) (ydD n ts rs) := by
  obtain ⟨a, e, ys, zs, h1, h2, h3, h4, h5⟩ := h
  have d1 : Dp K H (.ref a) (RwD.rsd (ts.map row2)) := RwD.RowsA.dp ⟨a, ys, rfl, h2, rows_a h3⟩
  have d2 : Dp K H (.ref e) (RwD.rsd rs) := RwD.RowsA.dp ⟨e, zs, rfl, h4, h5⟩
  exact .tup h1 (.cons (.int _) (.cons d1 (.cons d2 .nil)))
theorem yd_shaped (n : Nat) (ts : List (Int × Int)) (rs : List (List Int)) : SeqAt.shaped (ydD n ts rs) = true := by
  have l1 : (RwD.rsd (ts.map row2)).canLay0 = true := by simp only [RwD.rsd, PyData.canLay0]; exact RwD.lay_rds _
  have l2 : (RwD.rsd rs).canLay0 = true := by simp only [RwD.rsd, PyData.canLay0]; exact RwD.lay_rds _
  have d1 := RwD.depth_rsd (ts.map row2)
  have d2 := RwD.depth_rsd rs
  have h1 : (ydD n ts rs).canLay0 = true := by simp only [ydD, PyData.canLay0, PyData.canLayAll0, l1, l2, Bool.and_self]
  have h2 : (ydD n ts rs).depth ≤ 64 := by
    simp only [ydD, PyData.depth, PyData.depthAll]
    omega
  unfold SeqAt.shaped
  rw [h1, decide_eq_true h2]
  rfl
theorem yd_self (n : Nat) (ts : List (Int × Int)) (rs : List (List Int)) : PyData.eqv (ydD n ts rs) (ydD n ts rs) = true := by
  have e1 : PyData.eqv (RwD.rsd (ts.map row2)) (RwD.rsd (ts.map row2)) = true := by rw [RwD.eqv_rsd, decide_eq_true rfl]
  have e2 : PyData.eqv (RwD.rsd rs) (RwD.rsd rs) = true := by rw [RwD.eqv_rsd, decide_eq_true rfl]
  simp [ydD, PyData.eqv, PyData.eqvAll, e1, e2]
end Y
set_option Elab.async false
set_option linter.all false
set_option maxRecDepth 100000
set_option maxHeartbeats 4000000
namespace Y
open PySem PySem.Spec PyProof.Rows L2 LamX
/-! ### the law's second half: what is small, what is odd -/
section
variable {n d dd : Nat} {ts : List (Int × Int)} {rs : List (List Int)} {r : Rw} {Ms : List (List Rw)}
theorem clr120 (yp : YP n ts rs) (hl : r.length = n) (n5 : n ≤ 5) (k : Nat) : (Clr (stepsV ts rs) r k).length ≤ 120 := Nat.le_trans (List.length_filter_le _ _) (ly120 yp hl n5 k)
theorem clr_small (yp : YP n ts rs) (hl : r.length = n) (n5 : n ≤ 5) (h0 : ∀ z ∈ r, 0 ≤ z ∧ z ≤ 100) (h : Paired SortedOf Ms ((List.range (d + 1)).map (Clr (stepsV ts rs) r))) : ∀ M ∈ Ms, M.length ≤ 120 ∧ ∀ x ∈ M, SmallR x := fun M hM => by
  obtain ⟨j, hj⟩ := List.mem_iff_getElem?.mp hM
  obtain ⟨L, eL, sM⟩ := par_get h hj
  obtain ⟨i, _, rfl⟩ := List.mem_map.mp (List.mem_of_getElem? eL)
  refine ⟨by rw [sM.perm.length_eq]; exact clr120 yp hl n5 i, fun x hx => ?_⟩
  have p := ly_perm yp hl i x (mem_clr.mp (sM.perm.mem_iff.mp hx)).1
  exact ⟨by rw [p.length_eq]; omega, fun z hz => h0 z (p.mem_iff.mp hz)⟩
end
theorem clr_sn {T : StF} {r x : Rw} {k d : Nat} (hk : k ≤ d) (h : x ∈ Clr T r k) : x ∈ Sn T r d := Sn_mono hk _ (Ly_sub k x (mem_clr.mp h).1)
theorem clr_one {T : StF} {r x : Rw} {k j : Nat} (h : x ∈ Clr T r k) (hj : x ∈ Ly T r j) : k = j := Ly_one (mem_clr.mp h).1 hj
theorem par_rowsA {K : PySem.W.Frag} {H : Hp} {vs : List V} {M : List Rw} (h : Paired (RowV H) vs M) : Paired (RwD.RowA K H) vs M := par_map (fun v r h => h.a) h
theorem RowsV.a {K : PySem.W.Frag} {H : Hp} {v : V} {M : List Rw} (h : RowsV H v M) : RwD.RowsA K H v M := by
  obtain ⟨t, vs, rfl, h1, h2⟩ := h
  exact ⟨t, vs, rfl, SqT.of h1, par_rowsA h2⟩
def pairD (z : Int) (M : List Rw) : PyData := .tuple [.int z, RwD.rsd M]
theorem pair_dp {K : PySem.W.Frag} {H : Hp} {q : Addr} {z : Int} {v : V} {M : List Rw} (h : H q = some (.tup [.int z, v])) (hv : RowsV H v M) : Dp K H (.ref q) (pairD z M) := .tup (SqT.of h) (.cons (.int _) (.cons (RwD.RowsA.dp hv.a) .nil))
theorem pair_shaped (z : Int) (M : List Rw) : SeqAt.shaped (pairD z M) = true := by
  have l1 : (RwD.rsd M).canLay0 = true := by simp only [RwD.rsd, PyData.canLay0]; exact RwD.lay_rds _
  have d1 := RwD.depth_rsd M
  have h1 : (pairD z M).canLay0 = true := by simp only [pairD, PyData.canLay0, PyData.canLayAll0, l1, Bool.and_self]
  have h2 : (pairD z M).depth ≤ 64 := by
    simp only [pairD, PyData.depth, PyData.depthAll]
    omega
  unfold SeqAt.shaped
  rw [h1, decide_eq_true h2]
  rfl
theorem pair_self (z : Int) (M : List Rw) : PyData.eqv (pairD z M) (pairD z M) = true := by
  have e1 : PyData.eqv (RwD.rsd M) (RwD.rsd M) = true := by rw [RwD.eqv_rsd, decide_eq_true rfl]
  simp [pairD, PyData.eqv, PyData.eqvAll, e1]
theorem small_log {z : Int} (h0 : 0 ≤ z) (h1 : z ≤ 200) : z.natAbs.log2 < 1920 := by
  by_cases c : z.natAbs = 0
  · rw [c]; decide
  · have : z.natAbs < 2 ^ 8 := by omega
    have := (Nat.log2_lt c).mpr this
    omega
theorem ok_small : ∀ k : Fin 201, PyData.strOk (Str.ofString (toString ((k : Nat) : Int))) = true := by decide +kernel
theorem ok_int {z : Int} (h0 : 0 ≤ z) (h1 : z ≤ 200) : PyData.strOk (Str.ofString (toString z)) = true := by
  have := ok_small ⟨z.toNat, by omega⟩
  have e : ((z.toNat : Nat) : Int) = z := by omega
  simp only [e] at this
  exact this
theorem ok_many : PyData.strOk "many" = true := by decide +kernel
theorem okS_number : PyData.strOk "number" = true := by decide +kernel
theorem okS_moves : PyData.strOk "moves" = true := by decide +kernel
theorem shaped_two {x y : Str} (hx : PyData.strOk x = true) (hy : PyData.strOk y = true) : SeqAt.shaped (.tuple [.str x, .str y]) = true := by
  simp [SeqAt.shaped, PyData.canLay0, PyData.canLayAll0, PyData.depth, PyData.depthAll, hx, hy]
theorem shaped_three {x y z : Str} (hx : PyData.strOk x = true) (hy : PyData.strOk y = true) (hz : PyData.strOk z = true) : SeqAt.shaped (.tuple [.str x, .str y, .str z]) = true := by
  simp [SeqAt.shaped, PyData.canLay0, PyData.canLayAll0, PyData.depth, PyData.depthAll, hx, hy, hz]
theorem eqv_three {x y z : Str} : PyData.eqv (.tuple [.str x, .str y, .str z]) (.tuple [.str x, .str y, .str z]) = true := by simp [PyData.eqv, PyData.eqvAll]
theorem shaped_rep {x y : Str} (hx : PyData.strOk x = true) (hy : PyData.strOk y = true) : SeqAt.shaped (.list [.tuple [.str x, .str y], .tuple [.str x, .str y], .tuple [.str x, .str y], .tuple [.str x, .str y]]) = true := by
  simp [SeqAt.shaped, PyData.canLay0, PyData.canLayAll0, PyData.depth, PyData.depthAll, hx, hy]
theorem eqv_rep {x y : Str} : PyData.eqv (.list [.tuple [.str x, .str y], .tuple [.str x, .str y], .tuple [.str x, .str y], .tuple [.str x, .str y]]) (.list [.tuple [.str x, .str y], .tuple [.str x, .str y], .tuple [.str x, .str y], .tuple [.str x, .str y]]) = true := by simp [PyData.eqv, PyData.eqvAll]
theorem tabs_upd {T : List (Addr × Str)} {H : Hp} {l : Addr} {xs : List V} {o : HO} (t : Tabs T H) (e : H l = some (.lst xs)) : Tabs T (upd H l o) := fun p hp => by
  obtain ⟨ps, h1, h2, h3⟩ := t p hp
  refine ⟨ps, by rw [upd_ne (ne_of h1 e (by intro z; cases z))]; exact h1, h2, fun pos cv hc => ?_⟩
  obtain ⟨c, e1, e2⟩ := h3 pos cv hc
  exact ⟨c, e1, by rw [upd_ne (ne_of e2 e (by intro z; unfold CodeO at z; cases z))]; exact e2⟩
/-- odd numbers: scalars that are told by repr -/
structure OddS (d : PyData) : Prop where
  sc : isSc d = true
  sh : d.showable = true
  ok : PyData.strOk d.shown = true
  len : d.shown.length ≤ sizeLine
theorem odd_fin : ∀ k : Fin 202, ((PyData.int (((k : Nat) : Int) - 1)).showable && PyData.strOk (PyData.int (((k : Nat) : Int) - 1)).shown && decide ((PyData.int (((k : Nat) : Int) - 1)).shown.length ≤ 100)) = true := by decide +kernel
theorem odd_int {z : Int} (h0 : -1 ≤ z) (h1 : z ≤ 200) : OddS (.int z) := by
  have := odd_fin ⟨(z + 1).toNat, by omega⟩
  have e : (((z + 1).toNat : Nat) : Int) - 1 = z := by omega
  simp only [e, Bool.and_eq_true, decide_eq_true_iff] at this
  exact ⟨rfl, this.1.1, this.1.2, Nat.le_trans this.2 (by decide)⟩
theorem odd_of {d : PyData} (h : (isSc d && d.showable && PyData.strOk d.shown && decide (d.shown.length ≤ 100)) = true) : OddS d := by
  simp only [Bool.and_eq_true, decide_eq_true_iff] at h
  exact ⟨h.1.1.1, h.1.1.2, h.1.2, Nat.le_trans h.2 (by decide)⟩
theorem odd_far {T : StF} {r : Rw} {d dd i : Nat} {y : V} (deep : Deep T r d dd) (hd : d ≤ 119) (h : [V.int (((dd : Nat) : Int) + 1), V.int (-1), V.non, V.bl true, V.bl false, V.str "1"][i]? = some y) :
    ∃ dt, (∀ (K : PySem.W.Frag) (H : Hp), Dq K H dt y) ∧ OddS dt ∧ farB T r dt d = false := by
  have hle := deep.le
  match i, h with
  | 0, h =>
    obtain rfl := Option.some.inj h
    refine ⟨.int ((dd + 1 : Nat) : Int), fun K H => .int _, odd_int (by omega) (by omega), ?_⟩
    rw [farB_nat]
    by_cases c : dd + 1 ≤ d
    · have : Clr T r (dd + 1) = [] := Classical.byContradiction fun z => absurd ((deep.iff _ c).mp z) (by omega)
      rw [this]
      simp
    · rw [decide_eq_false (by omega)]
      rfl
  | 1, h => obtain rfl := Option.some.inj h; exact ⟨.int (-1), fun K H => .int _, odd_int (by omega) (by omega), farB_no rfl⟩
  | 2, h => obtain rfl := Option.some.inj h; exact ⟨.none, fun K H => .non, odd_of (by decide +kernel), farB_no rfl⟩
  | 3, h => obtain rfl := Option.some.inj h; exact ⟨.bool true, fun K H => .bl _, odd_of (by decide +kernel), farB_no rfl⟩
  | 4, h => obtain rfl := Option.some.inj h; exact ⟨.bool false, fun K H => .bl _, odd_of (by decide +kernel), farB_no rfl⟩
  | 5, h => obtain rfl := Option.some.inj h; exact ⟨.str "1", fun K H => .str _, odd_of (by decide +kernel), farB_no rfl⟩
  | _ + 6, h => cases h
theorem odd_num {m i : Nat} {y : V} (hm : m ≤ 120) (h : [V.int ((m : Nat) : Int), V.int (-1), V.non, V.bl true, V.bl false, V.str "0"][i]? = some y) :
    ∃ dt, (∀ (K : PySem.W.Frag) (H : Hp), Dq K H dt y) ∧ OddS dt ∧ numB dt m = false := by
  match i, h with
  | 0, h =>
    obtain rfl := Option.some.inj h
    refine ⟨.int ((m : Nat) : Int), fun K H => .int _, odd_int (by omega) (by omega), ?_⟩
    rw [numB_nat, decide_eq_false (by omega)]
  | 1, h => obtain rfl := Option.some.inj h; exact ⟨.int (-1), fun K H => .int _, odd_int (by omega) (by omega), numB_no rfl⟩
  | 2, h => obtain rfl := Option.some.inj h; exact ⟨.none, fun K H => .non, odd_of (by decide +kernel), numB_no rfl⟩
  | 3, h => obtain rfl := Option.some.inj h; exact ⟨.bool true, fun K H => .bl _, odd_of (by decide +kernel), numB_no rfl⟩
  | 4, h => obtain rfl := Option.some.inj h; exact ⟨.bool false, fun K H => .bl _, odd_of (by decide +kernel), numB_no rfl⟩
  | 5, h => obtain rfl := Option.some.inj h; exact ⟨.str "0", fun K H => .str _, odd_of (by decide +kernel), numB_no rfl⟩
  | _ + 6, h => cases h
/-- what is no list stands in another heap -/
def Kn (H H' : Hp) : Prop := ∀ b o, H b = some o → (∀ xs, o ≠ .lst xs) → (∀ u v, o ≠ .frz u v) → H' b = some o
theorem Kn.upd {H : Hp} {l : Addr} {xs : List V} {o : HO} (e : H l = some (.lst xs)) : Kn H (upd H l o) := fun b u h n _ => by rw [upd_ne (fun z => by rw [z, e] at h; exact n xs (Option.some.inj h).symm)]; exact h
def SqN (H H' : Hp) : Prop := ∀ b o, H b = some o → (∀ xs, o ≠ .lst xs) → H' b = some o
theorem SqN.upd {H : Hp} {l : Addr} {xs : List V} {o : HO} (e : H l = some (.lst xs)) : SqN H (upd H l o) := fun b u h n => by rw [upd_ne (fun z => by rw [z, e] at h; exact n xs (Option.some.inj h).symm)]; exact h
section
variable {K : PySem.W.Frag} {H H' : Hp}
theorem SqN.seqT {a : Addr} {xs : List V} (s : SqN H H') (h : SqT K H a xs) : SqT K H' a xs := by
  rcases h with (h | ⟨o, h⟩) | h
  · exact .inl (.inl (s _ _ h fun _ z => by cases z))
  · exact .inl (.inr ⟨o, s _ _ h fun _ z => by cases z⟩)
  · exact .inr h
theorem LW.off {CY q s0 x : Addr} {n : Nat} {ts : List (Int × Int)} {rs : List (List Int)} {st : Rw} (h : LW K CY H q s0 x n ts rs st) (s : SqN H H') : LW K CY H' q s0 x n ts rs st := by
  obtain ⟨⟨a, e, ys, zs, h1, h2, h3, h4, h5⟩, ⟨dx, a', e', fs, ys', zs', g1, g2, g3, g4, g5, g6, g7, g8, g9⟩, hs⟩ := h
  exact ⟨⟨a, e, ys, zs, s.seqT h1, s.seqT h2, par_map (fun y r ⟨b, e, hb⟩ => ⟨b, e, s.seqT hb⟩) h3, s.seqT h4, par_map (fun y r ⟨b, e, hb⟩ => ⟨b, e, s.seqT hb⟩) h5⟩,
    ⟨dx, a', e', fs, ys', zs', s _ _ g1 (fun _ z => by cases z), g2, g3, g4, g5, s.seqT g6, par_map (fun y r ⟨b, e, hb⟩ => ⟨b, e, s.seqT hb⟩) g7, s.seqT g8, par_map (fun y r ⟨b, e, hb⟩ => ⟨b, e, s.seqT hb⟩) g9⟩, s _ _ hs fun _ z => by cases z⟩
end
/-- a list of what was raised -/
def Fnd (s : Str) (H : Hp) (l : Addr) (k : Nat) : Prop := ∃ vs, H l = some (.lst vs) ∧ vs.length = k ∧ ∀ v ∈ vs, ∃ t, v = V.ref t ∧ H t = some (.tup [.str "many", .str s])
theorem Fnd.ky {s : Str} {H H' : Hp} {l : Addr} {k : Nat} (h : Fnd s H l k) (f : Ky H H') : Fnd s H' l k := by
  obtain ⟨vs, e, hl, ht⟩ := h
  exact ⟨vs, f.lst e, hl, fun v hv => by obtain ⟨t, rfl, e⟩ := ht v hv; exact ⟨t, rfl, f.tup e⟩⟩
theorem Fnd.app {s : Str} {H : Hp} {l t : Addr} {k : Nat} {vs : List V} (h : Fnd s H l k) (e : H l = some (.lst vs)) (et : H t = some (.tup [.str "many", .str s])) : vs.length = k ∧ Fnd s (upd H l (.lst (vs ++ [V.ref t]))) l (k + 1) := by
  obtain ⟨us, e2, hl, ht⟩ := h
  have e3 : us = vs := by have := e.symm.trans e2; injection this with this; injection this with this; exact this.symm
  subst e3
  have up : ∀ b xs, H b = some (.tup xs) → (upd H l (.lst (us ++ [V.ref t]))) b = some (.tup xs) := fun b xs h => by rw [upd_ne (ne_of h e (by intro z; cases z))]; exact h
  refine ⟨hl, us ++ [V.ref t], upd_same, by rw [List.length_append, hl]; rfl, fun v hv => ?_⟩
  rcases List.mem_append.mp hv with hv | hv
  · obtain ⟨t2, rfl, e4⟩ := ht v hv
    exact ⟨t2, rfl, up _ _ e4⟩
  · rw [List.mem_singleton.mp hv]
    exact ⟨t, rfl, up _ _ et⟩
theorem Fnd.dp {K : PySem.W.Frag} {s : Str} {H : Hp} {l : Addr} (h : Fnd s H l 4) : Dp K H (.ref l) (.list [.tuple [.str "many", .str s], .tuple [.str "many", .str s], .tuple [.str "many", .str s], .tuple [.str "many", .str s]]) := by
  obtain ⟨vs, e, hl, ht⟩ := h
  match vs, hl with
  | [a, b, c, d], _ =>
    have one : ∀ v ∈ [a, b, c, d], Dp K H v (.tuple [.str "many", .str s]) := fun v hv => by
      obtain ⟨t, rfl, e⟩ := ht v hv
      exact .tup (SqT.of e) (.cons (.str _) (.cons (.str _) .nil))
    exact .lst (SqL.of e) (.cons (one a (by simp)) (.cons (one b (by simp)) (.cons (one c (by simp)) (.cons (one d (by simp)) .nil))))
end Y
set_option Elab.async false
set_option linter.all false
set_option maxRecDepth 100000
set_option maxHeartbeats 8000000
namespace Y
open PySem PySem.Spec PyProof.Rows L2 LamX
/-! ### the law -/
def spLaw (K : PySem.W.Frag) (Pt : Addr) : Sp := fun vs H Q _ => ∃ (a : Addr) (ns : List Int), vs = [.ref a] ∧ SqL K H a (ns.map V.int) ∧ ns.length ≤ 63 ∧ H Pt = some (.tbl #[]) ∧ ∀ H', Q (.bl true) H'
theorem ix_listK {X : Cx} {K : PySem.W.Frag} (e : X.K = K) : IxR X (rIxL K) := by
  subst e
  exact ix_list
structure TLw (K : PySem.W.Frag) (mg : Str → Option Value) (CY fPen fPick fSm fMk fTu fTa fWt fRr fStir fCs fCw fHa fMs fEq fDraw : Addr) : Prop where
  g : TG K mg fDraw
  repr_ : mg "repr" = none
  sorted : mg "sorted" = none
  max : mg "max" = none
  gPen : mg "_law_pen" = some (.ref fPen)
  gPick : mg "_law_pick" = some (.ref fPick)
  gSm : mg "_law_small_yard" = some (.ref fSm)
  gMk : mg "_law_made_yard" = some (.ref fMk)
  gTu : mg "_law_turned" = some (.ref fTu)
  gTa : mg "turned_about" = some (.ref fTa)
  gWt : mg "_law_ways_to" = some (.ref fWt)
  gRr : mg "_law_row_right" = some (.ref fRr)
  gStir : mg "_law_stirred" = some (.ref fStir)
  gCs : mg "clear_stands" = some (.ref fCs)
  gCw : mg "clear_row" = some (.ref fCw)
  gHa : mg "hardest" = some (.ref fHa)
  gMs : mg "made_stand" = some (.ref fMs)
  eqY : PySem.W.findIn K (.ref CY) "__eq__" = some (some (.ref fEq))
  fnEq : PySem.W.isFn K (.ref fEq) = true
section
variable {P : Program} {w : World} {K : PySem.W.Frag} {mg : Str → Option Value} {base : Heap} {CY CU CM CB fPen fPick fSm fMk fTu fTa fWt fRr fStir fCs fCw fHa fMs fEq fFa fDraw : Addr}
theorem ifGo2 {c : Bool} {A A' : Prop} {R : Hp → Prop} {H : Hp} (rest : ∀ H', Same H H' → R H') (h : c = true → (∀ H', Same H H' → R H') → A) : if c = true then A else (if false = true then A' else R H) := by
  cases c with
  | true => rw [if_pos rfl]; exact h rfl rest
  | false => rw [if_neg Bool.false_ne_true, if_neg Bool.false_ne_true]; exact rest H (Same.refl' H)
theorem q_law {f c : Addr} {A : Around} {outer : List Env} {s : Shared} {H : Hp} {E : XK} : (cxOf CX0 P w K mg base NLaw "law" (defScope sLaw) f (.ref c) A outer s H E).nox.env.qual ++ "<lambda>" = qLam := by
  show (PyProof.Rows.envOfC "law" (defScope sLaw) s.heap.objs.size f (.ref c)).qual ++ "<lambda>" = qLam
  rfl
theorem scLaw : FnScope NLaw ["_law_script"] (defScope sLaw) := ⟨rfl, rfl, rfl, by decide +kernel, rfl, by decide +kernel, by decide +kernel⟩
theorem nmL {X : Cx} {A : Around} {outer : List Env} {s : Shared} {H : Hp} {E : XK} {scope : Scope} {f c' : Addr} (eN : X.N = NLaw) (i : Nat) (x : Str) (h : NLaw[i]? = some x) : (lamCx X A outer s H E scope f c').N[i]? = some x := by
  show X.N[i]? = some x
  rw [eN]
  exact h
theorem ok_law {f c Pt : Addr} {fd fdPen fdK fdSm fdMk fdTu fdTa fdWt fdRr fdSt fdCs fdCw fdHa fdMs fdEq fdFa fdD : FuncData} (F : Fun K "law" "law" sLaw f fd) (hc : fd.code = .ref c) (TB : TabB base mg c Pt)
    (T : TLw K mg CY fPen fPick fSm fMk fTu fTa fWt fRr fStir fCs fCw fHa fMs fEq fDraw) (TW : TFb K mg CU CM CB) (gFa : mg "_law_fault" = some (.ref fFa)) (FFa : Fun K "_law_fault" "_law_fault" sFa fFa fdFa) (bFa : Binds K fdFa ["_law_call"] [])
    (GD : FnOk P w K mg base CX0 1 fDraw fdD ["_law_pen_here", "_law_many"] spDraw) (FD : Fun K "_law_draw" "_law_draw" sDraw fDraw fdD) (bD : Binds K fdD ["_law_pen_here", "_law_many"] [])
    (GK : FnOk P w K mg base CX0 2 fPick fdK ["_law_pen_here", "_law_some"] (spPick K)) (FK : Fun K "_law_pick" "_law_pick" sPick fPick fdK) (bK : Binds K fdK ["_law_pen_here", "_law_some"] [])
    (GPen : FnOk P w K mg base CX0 1 fPen fdPen ["_law_script"] (spPen K)) (FPen : Fun K "_law_pen" "_law_pen" sPen fPen fdPen) (bPen : Binds K fdPen ["_law_script"] [])
    (GSm : FnOk P w K mg base CX0 4 fSm fdSm ["_law_pen_here"] (spSm K)) (FSm : Fun K "_law_small_yard" "_law_small_yard" sSm fSm fdSm) (bSm : Binds K fdSm ["_law_pen_here"] [])
    (GMk : FnOk P w K mg base CX0 7 fMk fdMk ["_law_yard"] (spMk2 K CY)) (FMk : Fun K "_law_made_yard" "_law_made_yard" sMk2 fMk fdMk) (bMk : Binds K fdMk ["_law_yard"] [])
    (GTu : FnOk P w K mg base CX0 1 fTu fdTu ["_law_yard"] (spTu K)) (FTu : Fun K "_law_turned" "_law_turned" sTu fTu fdTu) (bTu : Binds K fdTu ["_law_yard"] [])
    (GTa : FnOk P w K mg base CX0 7 fTa fdTa ["yard"] (spTa K CY)) (FTa : Fun K "turned_about" "turned_about" sTa fTa fdTa) (bTa : Binds K fdTa ["yard"] [])
    (GWt : FnOk P w K mg base CX0 3 fWt fdWt ["_law_yard", "_law_goal"] (spWt K)) (FWt : Fun K "_law_ways_to" "_law_ways_to" sWt fWt fdWt) (bWt : Binds K fdWt ["_law_yard", "_law_goal"] [])
    (GRr : FnOk P w K mg base CX0 2 fRr fdRr ["_law_yard", "_law_goal", "_law_far", "_law_counts", "_law_stand", "_law_told"] (spRr K)) (FRr : Fun K "_law_row_right" "_law_row_right" sRr fRr fdRr) (bRr : Binds K fdRr ["_law_yard", "_law_goal", "_law_far", "_law_counts", "_law_stand", "_law_told"] [])
    (GSt : FnOk P w K mg base CX0 2 fStir fdSt ["_law_pen_here", "_law_stand"] (spStir K)) (FSt : Fun K "_law_stirred" "_law_stirred" sStir fStir fdSt) (bSt : Binds K fdSt ["_law_pen_here", "_law_stand"] [])
    (GCs : FnOk P w K mg base (L2.CX P w) 10 fCs fdCs ["yard", "goal", "most"] (spCs K CY CM)) (FCs : Fun K "clear_stands" "clear_stands" sCs fCs fdCs) (bCs : Binds K fdCs ["yard", "goal", "most"] [])
    (GCw : FnOk P w K mg base (L2.CX P w) 10 fCw fdCw ["yard", "goal", "stand", "most"] (spCw K CY CM)) (FCw : Fun K "clear_row" "clear_row" sCw fCw fdCw) (bCw : Binds K fdCw ["yard", "goal", "stand", "most"] [])
    (GHa : FnOk P w K mg base (L2.CX P w) 11 fHa fdHa ["yard", "goal", "most"] (spHa K CY CM)) (FHa : Fun K "hardest" "hardest" sHa fHa fdHa) (bHa : Binds K fdHa ["yard", "goal", "most"] [])
    (GMs : FnOk P w K mg base (L2.CX P w) 11 fMs fdMs ["yard", "goal", "far", "number", "most"] (spMs K CY CM CB)) (FMs : Fun K "made_stand" "made_stand" sMs fMs fdMs) (bMs : Binds K fdMs ["yard", "goal", "far", "number", "most"] [])
    (GEq : FnOk P w K mg base CX0 1 fEq fdEq ["self", "other"] (spEq (SameY K CY))) (bEq : Binds K fdEq ["self", "other"] []) :
    FnG P w K mg base CX0 14 f fd ["_law_script"] (spLaw K Pt) := by
  refine okGc F hc scLaw (fun vs H Q E h => ?_) (fun A outer s H vs Q E hg hr h => ?_)
  · obtain ⟨a, ns, rfl, _⟩ := h
    rfl
  · obtain ⟨a, ns, rfl, hS, hlen, hPt, k⟩ := h
    have hr1 : Room 1 _ := hr.mono (by decide)
    have hr2 : Room 2 _ := hr.mono (by decide)
    have hr3 : Room 3 _ := hr.mono (by decide)
    have hr4 : Room 4 _ := hr.mono (by decide)
    have hr7 : Room 7 _ := hr.mono (by decide)
    have hr10 : Room 10 _ := hr.mono (by decide)
    have hr11 : Room 11 _ := hr.mono (by decide)
    have hr12 : Room 12 _ := hr.mono (by decide)
    have hr13 : Room 13 _ := hr.mono (by decide)
    have hu := hr.units
    have hu1 := hu_of hr
    refine ⟨_, pss_cons (ps_set (i := 1) scLaw.nd rfl (Or.inl rfl) (pe_call GPen hr1 (by rfl) T.gPen FPen.kp bPen .nil pass0 (pa_cons (pv 0) pa_nil)))
      (pss_cons (ps_for PassesOwn.never rfl (pi_range1 (by rfl) T.g.range (pa_cons pe_int pa_nil)) (pg_name (i := 2) scLaw.nd rfl (Or.inl rfl))
        (pss_cons (ps_asg (pe_call GSm hr4 (by rfl) T.gSm FSm.kp bSm .nil pass0 (pa_cons (pv 1) pa_nil)) (pg_tup rfl (pgs_cons (pg_name (i := 3) scLaw.nd rfl (Or.inl rfl)) (pgs_cons (pg_name (i := 18) scLaw.nd rfl (Or.inr rfl)) pgs_nil))))
        (pss_cons (ps_asg (pe_tup (pa_cons (pe_call GMk hr7 (by rfl) T.gMk FMk.kp bMk .nil pass0 (pa_cons (pv 3) pa_nil)) (pa_cons (pe_call GTu hr1 (by rfl) T.gTu FTu.kp bTu .nil pass0 (pa_cons (pv 3) pa_nil)) pa_nil))) (pg_tup rfl (pgs_cons (pg_name (i := 17) scLaw.nd rfl (Or.inr rfl)) (pgs_cons (pg_name (i := 4) scLaw.nd rfl (Or.inl rfl)) pgs_nil))))
        (pss_cons (ps_set (i := 5) scLaw.nd rfl (Or.inl rfl) (pe_call GTa hr7 (by rfl) T.gTa FTa.kp bTa .nil pass0 (pa_cons (pv 17) pa_nil)))
        (pss_cons (ps_if (PW.pt (pw_or (pt_cmpR (op_neD hu) (pe_tup (pa_cons (pe_fld (pv 5) rfl) (pa_cons (pe_fld (pv 5) rfl) (pa_cons (pe_fld (pv 5) rfl) pa_nil)))) (pv 4) (nomark _))
            (pw_or1 (pt_not (pt_cmpR (op_eqG (rcG_ins GEq T.eqY T.fnEq bEq pass0) hr1) (pe_call GTa hr7 (by rfl) T.gTa FTa.kp bTa .nil pass0 (pa_cons (pv 5) pa_nil)) (pv 17) (nomark _)))))) (pss_one (ps_ret pe_bl)) pss_nil)
        (pss_cons (ps_asg (pe_call GWt hr3 (by rfl) T.gWt FWt.kp bWt .nil pass0 (pa_cons (pv 3) (pa_cons (pv 18) pa_nil))) (pg_tup rfl (pgs_cons (pg_name (i := 6) scLaw.nd rfl (Or.inr rfl)) (pgs_cons (pg_name (i := 7) scLaw.nd rfl (Or.inr rfl)) pgs_nil))))
        (pss_cons (ps_asg (pe_tup (pa_cons (pe_callB call_lenT (by rfl) T.g.p.len PySem.boot_len (pa_cons (pv 6) pa_nil)) (pa_cons (pe_callB (cr_max rfl) (by rfl) T.max (by decide +kernel) (pa_cons (pe_callTy call_list_of (by rfl) T.g.p.list (by decide +kernel) (pa_cons
            (pe_lock (pe_lc (own := [("_law_one", 22)]) (g := gName 22) (tt := tYes) rfl scLaw.nd (pi_keys (pv 6)) (blkOk_by (N := NLaw) (sc := defScope sLaw) (by decide +kernel))
              (fun _ _ _ _ _ => pg_name (i := 22) scLaw.nd rfl (Or.inl rfl)) (fun _ _ _ _ _ => pts_nil) (fun _ _ _ _ _ => pe_dget hu1 (pv 6) (pv 22) (fun _ _ => rfl)))) pa_nil)) pa_nil)) pa_nil)))
            (pg_tup rfl (pgs_cons (pg_name (i := 19) scLaw.nd rfl (Or.inr rfl)) (pgs_cons (pg_name (i := 8) scLaw.nd rfl (Or.inl rfl)) pgs_nil))))
        (pss_cons (ps_set (i := 9) scLaw.nd rfl (Or.inr rfl) (pe_lst pa_nil))
        (pss_cons (ps_for PassesOwn.never rfl (pi_range1 (by rfl) T.g.range (pa_cons (pe_op op_add (pv 8) pe_int) pa_nil)) (pg_name (i := 13) scLaw.nd rfl (Or.inr rfl))
          (pss_one (ps_expr (pe_bm PySem.F.plainAttrs_list PySem.F.slot_list_append PySem.F.type_list_append mt_append (pv 9) (pa_cons
            (pe_callTy call_tuple_of (by rfl) T.g.tuple (by decide +kernel) (pa_cons (pe_callB cr_sortRl (by rfl) T.sorted (by decide +kernel) (pa_cons
              (pe_lock (pe_lc (own := [("_law_one", 22)]) (g := gName 22) rfl scLaw.nd (pi_keys (pv 6)) (blkOk_by (N := NLaw) (sc := defScope sLaw) (by decide +kernel))
                (fun _ _ _ _ _ => pg_name (i := 22) scLaw.nd rfl (Or.inl rfl)) (fun _ _ _ _ _ => pts_one (PW.pt (pw_and (pt_cmpR op_eq (pe_dget hu1 (pv 6) (pv 22) (fun _ _ => rfl)) (pv 13) (nomark _)) (pw_and1 (pt_cmpR op_eq (pe_dget hu1 (pv 7) (pv 22) (fun _ _ => rfl)) pe_int (nomark _))))))
                (fun _ _ _ _ _ => pv 22))) pa_nil)) pa_nil)) pa_nil)))))
        (pss_cons (ps_if (pt_cmpR op_ne (pe_callB (call_show hg hu) (by rfl) T.repr_ (by decide +kernel) (pa_cons (pe_call GCs hr10 (by rfl) T.gCs FCs.kp bCs .nil passF (pa_cons (pv 17) (pa_cons
              (pe_call GK hr2 (by rfl) T.gPick FK.kp bK .nil pass0 (pa_cons (pv 1) (pa_cons (pe_lst (pa_cons (pv 18) (pa_cons (pe_callTy call_list_of (by rfl) T.g.p.list (by decide +kernel) (pa_cons (pv 18) pa_nil)) pa_nil))) pa_nil))) (pa_cons (pv 19) pa_nil)))) pa_nil))
            (pe_callB (call_show hg hu) (by rfl) T.repr_ (by decide +kernel) (pa_cons (pe_callTy call_tuple_of (by rfl) T.g.tuple (by decide +kernel) (pa_cons (pv 9) pa_nil)) pa_nil)) (nomark _)) (pss_one (ps_ret pe_bl)) pss_nil)
        (pss_cons (ps_for PassesOwn.never rfl (pi_range1 (by rfl) T.g.range (pa_cons pe_int pa_nil)) (pg_name (i := 10) scLaw.nd rfl (Or.inl rfl))
          (pss_cons (ps_set (i := 11) scLaw.nd rfl (Or.inl rfl) (pe_call GK hr2 (by rfl) T.gPick FK.kp bK .nil pass0 (pa_cons (pv 1) (pa_cons (pe_callB (cr_sortedDR rfl) (by rfl) T.sorted (by decide +kernel) (pa_cons (pv 6) pa_nil)) pa_nil))))
          (pss_cons (ps_set (i := 12) scLaw.nd rfl (Or.inl rfl) (pe_call GCw hr10 (by rfl) T.gCw FCw.kp bCw .nil passF (pa_cons (pv 17) (pa_cons (pv 18) (pa_cons
              (pe_call GK hr2 (by rfl) T.gPick FK.kp bK .nil pass0 (pa_cons (pv 1) (pa_cons (pe_lst (pa_cons (pv 11) (pa_cons (pe_callTy call_list_of (by rfl) T.g.p.list (by decide +kernel) (pa_cons (pv 11) pa_nil)) pa_nil))) pa_nil))) (pa_cons (pv 19) pa_nil))))))
          (pss_cons (ps_if (pt_cmpR op_ne (pe_cmpR op_isN (pv 12) pe_non (nomark _)) (pe_cmpR op_ne (pe_dget hu1 (pv 7) (pv 11) (fun _ _ => rfl)) pe_int (nomark _)) (nomark _)) (pss_one (ps_ret pe_bl)) pss_nil)
          (pss_one (ps_if (PW.pt (pw_and (pt_cmpR op_notN (pv 12) pe_non (nomark _)) (pw_and1 (pt_not (pt_val (pe_call GRr hr2 (by rfl) T.gRr FRr.kp bRr .nil pass0 (pa_cons (pv 3) (pa_cons (pv 18) (pa_cons (pv 6) (pa_cons (pv 7) (pa_cons (pv 11) (pa_cons (pv 12) pa_nil)))))))))))) (pss_one (ps_ret pe_bl)) pss_nil))))))
        (pss_cons (ps_set (i := 21) scLaw.nd rfl (Or.inr rfl) (pe_call GSt hr2 (by rfl) T.gStir FSt.kp bSt .nil pass0 (pa_cons (pv 1) (pa_cons (pv 18) pa_nil))))
        (pss_cons (ps_if (PW.pt (pw_and (pt_cmp (pc_dnotin hu1 (pv 21) (pv 6))) (pw_and1 (pt_cmpR op_notN (pe_call GCw hr10 (by rfl) T.gCw FCw.kp bCw .nil passF (pa_cons (pv 17) (pa_cons (pv 18) (pa_cons (pv 21) (pa_cons (pv 19) pa_nil))))) pe_non (nomark _))))) (pss_one (ps_ret pe_bl)) pss_nil)
        (pss_cons (ps_set (i := 14) scLaw.nd rfl (Or.inl rfl) (pe_callB (cr_max rfl) (by rfl) T.max (by decide +kernel) (pa_cons
            (pe_lc (own := [("_law_k", 13)]) (g := gName 13) rfl scLaw.nd (pi_range1 (by rfl) T.g.range (pa_cons (pe_op op_add (pv 8) pe_int) pa_nil)) (blkOk_by (N := NLaw) (sc := defScope sLaw) (by decide +kernel))
              (fun _ _ _ _ _ => pg_name (i := 13) scLaw.nd rfl (Or.inl rfl)) (fun _ _ _ _ _ => pts_one (pt_cmpR (RwD.op_neRs (K := K) rfl hu) (pe_ix (ix_listK (K := K) rfl) (pv 9) (pv 13) (fun _ _ => rfl)) (pe_tup pa_nil) (nomark _))) (fun _ _ _ _ _ => pv 13)) pa_nil)))
        (pss_cons (ps_if (pt_cmpR (op_neD hu) (pe_call GHa hr11 (by rfl) T.gHa FHa.kp bHa .nil passF (pa_cons (pv 17) (pa_cons (pv 18) (pa_cons (pe_op op_add (pv 19) pe_int) pa_nil)))) (pe_tup (pa_cons (pv 14) (pa_cons (pe_ix ix_list (pv 9) (pv 14) (fun _ _ => rfl)) pa_nil))) (nomark _)) (pss_one (ps_ret pe_bl)) pss_nil)
        (pss_cons (ps_set (i := 13) scLaw.nd rfl (Or.inr rfl) (pe_call GD hr1 (by rfl) T.g.p.gDraw FD.kp bD .nil pass0 (pa_cons (pv 1) (pa_cons (pe_op op_add (pv 14) pe_int) pa_nil))))
        (pss_cons (ps_set (i := 15) scLaw.nd rfl (Or.inl rfl) (pe_call GD hr1 (by rfl) T.g.p.gDraw FD.kp bD .nil pass0 (pa_cons (pv 1) (pa_cons (pe_callB call_len_seq (by rfl) T.g.p.len PySem.boot_len (pa_cons (pe_ix ix_list (pv 9) (pv 13) (fun _ _ => rfl)) pa_nil)) pa_nil))))
        (pss_cons (ps_if (pt_cmpR (RwD.op_neR (K := K) rfl hu) (pe_call GMs hr11 (by rfl) T.gMs FMs.kp bMs .nil passF (pa_cons (pv 17) (pa_cons (pv 18) (pa_cons (pv 13) (pa_cons (pv 15) (pa_cons (pv 19) pa_nil)))))) (pe_ix ix_tup (pe_ix ix_list (pv 9) (pv 13) (fun _ _ => rfl)) (pv 15) (fun _ _ => rfl)) (nomark _)) (pss_one (ps_ret pe_bl)) pss_nil)
        (pss_cons (ps_set (i := 20) scLaw.nd rfl (Or.inr rfl) (pe_call GK hr2 (by rfl) T.gPick FK.kp bK .nil pass0 (pa_cons (pv 1) (pa_cons (pe_lst (pa_cons (pe_op op_add (pv 14) pe_int) (pa_cons (pe_un un_neg pe_int) (pa_cons pe_non (pa_cons pe_bl (pa_cons pe_bl (pa_cons pe_str pa_nil))))))) pa_nil))))
        (pss_cons (ps_if (pt_cmpR (op_neD hu) (pe_ftX (K := K) (k := 11) rfl (by rfl) gFa FFa bFa TW TB rfl q_law hr13 (lamS_by (sc := defScope sLaw) (by decide +kernel)) rfl (fun _ _ _ _ _ => rfl) (fun A outer s H E f c' hrl =>
              pe_call GMs hrl (by rfl) T.gMs FMs.kp bMs .nil (passes_call (takes_of rfl rfl rfl rfl) fun _ _ _ _ h => h) (pa_cons (pe_var (nmL rfl 17 _ rfl) (by exact .inr (.inr rfl))) (pa_cons (pe_var (nmL rfl 18 _ rfl) (by exact .inr (.inr rfl))) (pa_cons (pe_var (nmL rfl 20 _ rfl) (by exact .inr (.inr rfl))) (pa_cons (pe_un un_neg pe_int) (pa_cons (pe_var (nmL rfl 19 _ rfl) (by exact .inr (.inr rfl))) pa_nil)))))))
            (pe_tup (pa_cons pe_str (pa_cons pe_str (pa_cons (pe_callB (call_showS (K := K) rfl) (by rfl) T.repr_ (by decide +kernel) (pa_cons (pv 20) pa_nil)) pa_nil)))) (nomark _)) (pss_one (ps_ret pe_bl)) pss_nil)
        (pss_cons (ps_set (i := 20) scLaw.nd rfl (Or.inr rfl) (pe_call GK hr2 (by rfl) T.gPick FK.kp bK .nil pass0 (pa_cons (pv 1) (pa_cons (pe_lst (pa_cons (pe_callB call_len_seq (by rfl) T.g.p.len PySem.boot_len (pa_cons (pe_ix ix_list (pv 9) (pv 13) (fun _ _ => rfl)) pa_nil)) (pa_cons (pe_un un_neg pe_int) (pa_cons pe_non (pa_cons pe_bl (pa_cons pe_bl (pa_cons pe_str pa_nil))))))) pa_nil))))
        (pss_cons (ps_if (pt_cmpR (op_neD hu) (pe_ftX (K := K) (k := 11) rfl (by rfl) gFa FFa bFa TW TB rfl q_law hr13 (lamS_by (sc := defScope sLaw) (by decide +kernel)) rfl (fun _ _ _ _ _ => rfl) (fun A outer s H E f c' hrl =>
              pe_call GMs hrl (by rfl) T.gMs FMs.kp bMs .nil (passes_call (takes_of rfl rfl rfl rfl) fun _ _ _ _ h => h) (pa_cons (pe_var (nmL rfl 17 _ rfl) (by exact .inr (.inr rfl))) (pa_cons (pe_var (nmL rfl 18 _ rfl) (by exact .inr (.inr rfl))) (pa_cons (pe_var (nmL rfl 13 _ rfl) (by exact .inr (.inr rfl))) (pa_cons (pe_var (nmL rfl 20 _ rfl) (by exact .inr (.inr rfl))) (pa_cons (pe_var (nmL rfl 19 _ rfl) (by exact .inr (.inr rfl))) pa_nil)))))))
            (pe_tup (pa_cons pe_str (pa_cons pe_str (pa_cons (pe_callB (call_showS (K := K) rfl) (by rfl) T.repr_ (by decide +kernel) (pa_cons (pv 20) pa_nil)) pa_nil)))) (nomark _)) (pss_one (ps_ret pe_bl)) pss_nil)
        (pss_cons (ps_set (i := 16) scLaw.nd rfl (Or.inl rfl) (pe_lst (pa_cons (pe_ftX (K := K) (k := 10) rfl (by rfl) gFa FFa bFa TW TB rfl q_law hr12 (lamS_by (sc := defScope sLaw) (by decide +kernel)) rfl (fun _ _ _ _ _ => rfl) (fun A outer s H E f c' hrl =>
              pe_call GCs hrl (by rfl) T.gCs FCs.kp bCs .nil (passes_call (takes_of rfl rfl rfl rfl) fun _ _ _ _ h => h) (pa_cons (pe_var (nmL rfl 17 _ rfl) (by exact .inr (.inr rfl))) (pa_cons (pe_var (nmL rfl 18 _ rfl) (by exact .inr (.inr rfl))) (pa_cons (pe_op op_sub (pe_var (nmL rfl 19 _ rfl) (by exact .inr (.inr rfl))) pe_int) pa_nil))))) pa_nil)))
        (pss_cons (ps_expr (pe_bm PySem.F.plainAttrs_list PySem.F.slot_list_append PySem.F.type_list_append mt_append (pv 16) (pa_cons (pe_ftX (K := K) (k := 11) rfl (by rfl) gFa FFa bFa TW TB rfl q_law hr13 (lamS_by (sc := defScope sLaw) (by decide +kernel)) rfl (fun _ _ _ _ _ => rfl) (fun A outer s H E f c' hrl =>
              pe_call GHa hrl (by rfl) T.gHa FHa.kp bHa .nil (passes_call (takes_of rfl rfl rfl rfl) fun _ _ _ _ h => h) (pa_cons (pe_var (nmL rfl 17 _ rfl) (by exact .inr (.inr rfl))) (pa_cons (pe_var (nmL rfl 18 _ rfl) (by exact .inr (.inr rfl))) (pa_cons (pe_op op_sub (pe_var (nmL rfl 19 _ rfl) (by exact .inr (.inr rfl))) pe_int) pa_nil))))) pa_nil)))
        (pss_cons (ps_expr (pe_bm PySem.F.plainAttrs_list PySem.F.slot_list_append PySem.F.type_list_append mt_append (pv 16) (pa_cons (pe_ftX (K := K) (k := 11) rfl (by rfl) gFa FFa bFa TW TB rfl q_law hr13 (lamS_by (sc := defScope sLaw) (by decide +kernel)) rfl (fun _ _ _ _ _ => rfl) (fun A outer s H E f c' hrl =>
              pe_call GMs hrl (by rfl) T.gMs FMs.kp bMs .nil (passes_call (takes_of rfl rfl rfl rfl) fun _ _ _ _ h => h) (pa_cons (pe_var (nmL rfl 17 _ rfl) (by exact .inr (.inr rfl))) (pa_cons (pe_var (nmL rfl 18 _ rfl) (by exact .inr (.inr rfl))) (pa_cons pe_non (pa_cons pe_non (pa_cons (pe_op op_sub (pe_var (nmL rfl 19 _ rfl) (by exact .inr (.inr rfl))) pe_int) pa_nil))))))) pa_nil)))
        (pss_cons (ps_expr (pe_bm PySem.F.plainAttrs_list PySem.F.slot_list_append PySem.F.type_list_append mt_append (pv 16) (pa_cons (pe_ftX (K := K) (k := 10) rfl (by rfl) gFa FFa bFa TW TB rfl q_law hr12 (lamS_by (sc := defScope sLaw) (by decide +kernel)) rfl (fun _ _ _ _ _ => rfl) (fun A outer s H E f c' hrl =>
              pe_call GCw hrl (by rfl) T.gCw FCw.kp bCw .nil (passes_call (takes_of rfl rfl rfl rfl) fun _ _ _ _ h => h) (pa_cons (pe_var (nmL rfl 17 _ rfl) (by exact .inr (.inr rfl))) (pa_cons (pe_var (nmL rfl 18 _ rfl) (by exact .inr (.inr rfl))) (pa_cons (pe_var (nmL rfl 21 _ rfl) (by exact .inr (.inr rfl))) (pa_cons (pe_op op_sub (pe_var (nmL rfl 19 _ rfl) (by exact .inr (.inr rfl))) pe_int) pa_nil)))))) pa_nil)))
        (pss_one (ps_if (pt_cmpR (op_neD hu) (pv 16) (pe_op op_rep (pe_lst (pa_cons (pe_tup (pa_cons pe_str (pa_cons (pe_callB SkE.call_repr_int (by rfl) T.repr_ (by decide +kernel) (pa_cons (pe_op op_sub (pv 19) pe_int) pa_nil)) pa_nil))) pa_nil)) pe_int) (nomark _)) (pss_one (ps_ret pe_bl)) pss_nil))))))))))))))))))))))))))))
      (pss_one (ps_ret pe_bl))), ?_⟩
    refine ⟨_, rfl, a, ns, rfl, hS, hlen, fun p c0 H1 P1 s1 np => ?_⟩
    have hT1 : Tabs [(Pt, qLam)] H1 := fun q hq => by rw [List.mem_singleton.mp hq]; exact TabS.nil (s1 _ _ hPt)
    refine gset_go (σ' := sg a p none none none none none none none none none none none none none none none none none none none none) rfl ?_
    dsimp only
    refine ⟨2, rfl, by omega, by omega, ?_⟩
    refine for_range (lo := 0) (n := (2 : Int).toNat) (fun i σ H' => ∃ (v2 v3 v4 v5 v6 v7 v8 v9 v10 v11 v12 v13 v14 v15 v16 v17 v18 v19 v20 v21 : Option V), σ = sg a p v2 v3 v4 v5 v6 v7 v8 v9 v10 v11 v12 v13 v14 v15 v16 v17 v18 v19 v20 v21 ∧ Tabs [(Pt, qLam)] H' ∧ Pen H' p c0 (2000 - 300 * i))
      ⟨none, none, none, none, none, none, none, none, none, none, none, none, none, none, none, none, none, none, none, none, rfl, hT1, P1.less (by decide)⟩ ?_ ?_
    rotate_left
    · rintro σ H2 ⟨v2, v3, v4, v5, v6, v7, v8, v9, v10, v11, v12, v13, v14, v15, v16, v17, v18, v19, v20, v21, rfl, _, _⟩
      exact k H2
    rintro i σ H2 hi ⟨v2, v3, v4, v5, v6, v7, v8, v9, v10, v11, v12, v13, v14, v15, v16, v17, v18, v19, v20, v21, rfl, T2, P2⟩
    have i3 : i < 2 := hi
    obtain ⟨B, hB⟩ : ∃ B, 2000 - 300 * i = B + 300 := ⟨1700 - 300 * i, by omega⟩
    rw [hB] at P2
    clear hS hPt hT1 P1 s1 np
    have iD : 2000 - 300 * (i + 1) = B := by omega
    refine gset_go (σ' := sg a p (some (.int (0 + (i : Int)))) v3 v4 v5 v6 v7 v8 v9 v10 v11 v12 v13 v14 v15 v16 v17 v18 v19 v20 v21) rfl ?_
    generalize some (V.int (0 + (i : Int))) = v2
    refine ⟨_, rfl, p, c0, B + 170, rfl, P2, fun t q s0 n ts rs st H3 et hy ok n5 hs lst h0 kp3 P3 => ?_⟩
    have T3 := tabs_kp T2 kp3
    clear T2 P2 kp3
    refine ⟨t, _, rfl, SqT.of et, rfl, _, _, rfl, _, _, rfl, rfl, ?_⟩
    refine sq_st (σ' := sg a p v2 (some (.ref q)) v4 v5 v6 v7 v8 v9 v10 v11 v12 v13 v14 v15 v16 v17 (some (.ref s0)) v19 v20 v21) rfl ?_
    have p0 : ∀ z ∈ st, 0 ≤ z := fun z hz => (h0 z hz).1
    obtain ⟨ts', trn⟩ := trn_of (rs := rs) (by have := ok.2.1; omega : n ≤ 60) ok.2.2.1 ok.2.2.2.2.1
    generalize hrs' : rs.map revR = rs' at trn
    clear hrs'
    have yp' := (trn.ydok ok).yp
    obtain ⟨d, dep, _⟩ := dep_of (S := stepsV ts' rs') (r := st) (B := 3125) fun k => sn_len yp' lst n5 k
    obtain ⟨dd, deep⟩ := deep_of (stepsV ts' rs') st d
    have yk : YK n d dd ts ts' rs rs' st := ⟨ok, n5, lst, h0, trn, dep, deep⟩
    have d120 := dep120 yp' lst n5 dep
    refine ⟨_, rfl, q, n, ts, rs, rfl, hy, ok, fun x H4 yo s4 => ?_⟩
    refine ⟨_, rfl, q, n, ts, rs, rfl, hy.kp (.of_same s4), ok, fun q' ts2 rs2 H5 hy' trn2 s5 => ⟨(by show 2 ≤ sizeLine; decide), fun t2 nt2 => ⟨t2, _, rfl, SqT.of upd_same, rfl, _, _, rfl, _, _, rfl, rfl, ?_⟩⟩⟩
    obtain ⟨e1, e2⟩ := trn.uniq trn2
    subst e1 e2
    have s6 := Same.new (o := .tup [.ref x, .ref q']) nt2
    have sA := (s4.trans s5).trans s6
    have yo6 := yo.kp (.of_same (s5.trans s6))
    have hs6 := sA _ _ hs
    have hy6 := hy.kp (.of_same sA)
    have hy6' := hy'.kp (.of_same s6)
    have T6 := tabs_kp T3 (.of_same sA)
    have P6 := P3.same sA
    have lw : LW K CY _ q s0 x n ts rs st := ⟨hy6, yo6, hs6⟩
    generalize upd H5 t2 (.tup [.ref x, .ref q']) = H6 at lw hy6' T6 P6 ⊢
    clear s4 s5 s6 sA yo6 hs6 hy6 yo hs hy hy' T3 P3 et nt2
    refine sq_st (σ' := sg a p v2 (some (.ref q)) (some (.ref q')) v5 v6 v7 v8 v9 v10 v11 v12 v13 v14 v15 v16 (some (.ref x)) (some (.ref s0)) v19 v20 v21) rfl ?_
    -- turned about, and back
    refine ⟨_, rfl, x, n, ts, rs, rfl, lw.yo, ok, fun x2 ts2 rs2 H7 yo2 trn2 s7 => ?_⟩
    obtain ⟨e1, e2⟩ := trn.uniq trn2
    subst e1 e2
    refine gset_go (σ' := sg a p v2 (some (.ref q)) (some (.ref q')) (some (.ref x2)) v6 v7 v8 v9 v10 v11 v12 v13 v14 v15 v16 (some (.ref x)) (some (.ref s0)) v19 v20 v21) rfl ?_
    dsimp only
    obtain ⟨dx2, a2, e2, fs2, ys2, zs2, hx2, yc2, lp2, lt2, lr2, ha2, pa2, he2, pe2⟩ := id yo2
    refine ⟨_, rfl, x2, CY, dx2, fs2, _, rfl, hx2, yc2.c, yc2.p, lp2, _, rfl, x2, CY, dx2, fs2, _, rfl, hx2, yc2.c, yc2.t, lt2, _, rfl, x2, CY, dx2, fs2, _, rfl, hx2, yc2.c, yc2.r, lr2, (by show 3 ≤ sizeLine; decide), fun t3 nt3 => ?_⟩
    have s8 := Same.new (o := .tup [.int (n : Int), .ref a2, .ref e2]) nt3
    have hyT : YdAt K (upd H7 t3 (.tup [.int (n : Int), .ref a2, .ref e2])) t3 n ts' rs' := ⟨a2, e2, ys2, zs2, SqT.of upd_same, Same.seqT s8 ha2, ties_kp pa2 (.of_same s8), Same.seqT s8 he2, rings_kp pe2 (.of_same s8)⟩
    refine ⟨_, rfl, ydD n ts' rs', ydD n ts' rs', yd_dp hyT, yd_dp (hy6'.kp (.of_same (s7.trans s8))), yd_shaped _ _ _, yd_shaped _ _ _, _, rfl, iteF' (by rw [yd_self]; rfl) ?_⟩
    refine ⟨_, rfl, x2, n, ts', rs', rfl, yo2.kp (.of_same s8), trn.ydok ok, fun x3 ts3 rs3 H8 yo3 trn3 s9 => ?_⟩
    obtain ⟨e1, e2⟩ := trn.symm.uniq trn3
    subst e1 e2
    have s69 := (s7.trans s8).trans s9
    have lw9 := lw.ky (.of_same s69)
    obtain ⟨dx3, a3, e3, fs3, ys3, zs3, hx3, yc3, lp3, lt3, lr3, ha3, pa3, he3, pe3⟩ := id yo3
    obtain ⟨dx1, a1, e1, fs1, ys1, zs1, hx1, yc1, lp1, lt1, lr1, ha1, pa1, he1, pe1⟩ := id lw9.yo
    refine ⟨_, rfl, ⟨x3, x, dx3, dx1, fs3, fs1, rfl, rfl, hx3, hx1, n, ts, rs, yo3, lw9.yo⟩, fun H9 ex9 => ?_⟩
    refine ⟨_, rfl, iteF' rfl ?_⟩
    have kyA : Ky H6 H9 := fun b o e _ _ => ex9 _ _ (s69 _ _ e)
    have lwA := lw.ky kyA
    have TA := tabs_kp T6 (.of_same fun b o e => ex9 _ _ (s69 _ _ e))
    have PA := P6.same fun b o e => ex9 _ _ (s69 _ _ e)
    clear T6 P6 lw lw9 s69 s9 s8 s7 ex9 kyA hx1 hx2 hx3 ha1 ha2 ha3 pa1 pa2 pa3 he1 he2 he3 pe1 pe2 pe3 yo2 yo3 hyT hy6' nt3
    clear lp1 lp2 lp3 lt1 lt2 lt3 lr1 lr2 lr3 yc1 yc2 yc3 trn2 trn3
    refine ⟨_, rfl, _, rfl, q, s0, n, d, ts, ts', rs, rs', st, rfl, lwA.yd, ok, n5, lwA.hs, lst, trn, dep, fun t g cc kvr kvc HB et eg0 hk ecc hkc sB => ⟨t, _, rfl, SqT.of et, rfl, _, _, rfl, _, _, rfl, rfl, ?_⟩⟩
    refine sq_st (σ' := sg a p v2 (some (.ref q)) (some (.ref q')) (some (.ref x2)) (some (.ref g)) (some (.ref cc)) v8 v9 v10 v11 v12 v13 v14 v15 v16 (some (.ref x)) (some (.ref s0)) v19 v20 v21) rfl ?_
    have lwB := lwA.ky (.of_same sB)
    have TB_ := tabs_kp TA (.of_same sB)
    have PB := PA.same sB
    clear lwA TA PA sB et
    have hB9 := fun i => sn_len (r := st) yp' lst n5 i
    have nd : ((dW (stepsV ts' rs') st d).map (·.1)).Nodup := by rw [dW_keys]; exact Sn_nodup d
    have lkr : kvr.length = (Sn (stepsV ts' rs') st d).length := by rw [hk.len, ← dW_keys, List.length_map]
    have l120 := sn120 yp' lst n5 (r := st) d
    have lW : (dW (stepsV ts' rs') st d).length ≤ 3125 := by rw [← hk.len, lkr]; omega
    have kd := hk.keysD
    have ndK : (kvr.map (·.1)).Nodup := by
      rw [keysD_map kd]
      exact List.Pairwise.map _ (fun a b n z => n (keyR_inj z)) nd
    refine ⟨_, rfl, g, kvr, rfl, eg0, ?_⟩
    refine ⟨g, .dT kvr, eg0, trivial, fun od => ?_⟩
    refine ⟨_, rfl, g, od, rfl, .inr ⟨kvr, upd_same, fun D nD => ?_⟩⟩
    have eg1 : (upd HB g (.frz od (.dT kvr))) g = some (.frz od (.dT kvr)) := upd_same
    have b1 : ∀ b o, b ≠ g → HB b = some o → (upd HB g (.frz od (.dT kvr))) b = some o := fun b o n e => by rw [upd_ne n]; exact e
    generalize upd HB g (.frz od (.dT kvr)) = H4 at eg1 b1 nD ⊢
    have Dg : D ≠ g := fun z => by rw [z, eg1] at nD; cases nD
    have nD1 : HB D = none := by
      cases e : HB D with
      | none => rfl
      | some o => rw [b1 D o Dg e] at nD; cases nD
    refine lc_it walk_keysT (fun j H' => H' D = some (.lst ((((dW (stepsV ts' rs') st d).take j).map (·.2)).map V.int)) ∧ H' g = some (.frz od (.dT kvr)) ∧ (∀ b o, b ≠ g → HB b = some o → H' b = some o))
      ⟨upd_same, by rw [upd_ne (Ne.symm Dg)]; exact eg1, fun b o n e => by rw [upd_ne (ne_of_none e nD1)]; exact b1 b o n e⟩ (fun j H' _ h => h.2.1) ?_ ?_
    · rintro j y H5 H5' hj ⟨eD, eg3, b3⟩ ⟨rfl, key, val, ka, hkv, rfl, eka⟩
      obtain ⟨p, ep, hkey, rfl⟩ := par_get hk hkv
      obtain rfl : key = keyR p.1 := hkey
      refine ⟨rfl, yes_if ?_⟩
      have jl := (List.getElem?_eq_some_iff.mp ep).1
      refine ⟨_, rfl, _, rfl, g, .int p.2, rfl, .inr ⟨kvr, keyR p.1, ka, .inr ⟨od, eg3⟩, rfl, eka, (valV_nth ndK hkv).symm⟩, _, eD, ?_, ?_, by rw [upd_ne (Ne.symm Dg)]; exact eg3, fun b o n e => by rw [upd_ne (ne_of_none e nD1)]; exact b3 b o n e⟩
      · rw [List.length_map, List.length_map, List.length_take]
        exact Nat.lt_of_le_of_lt (by omega : _ ≤ 3125) (by decide)
      · rw [upd_same, take_next ep, List.map_append, List.map_append]
        rfl
    rintro H5 ⟨eD, eg3, b3⟩
    rw [hk.len, List.take_length] at eD
    refine ⟨eg3, ?_⟩
    have s3 : Same HB (upd H5 g (.dT kvr)) := fun b o e => by
      by_cases c : b = g
      · rw [c] at e ⊢
        rw [upd_same, ← eg0, e]
      · rw [upd_ne c]
        exact b3 b o c e
    have eD4 : (upd H5 g (.dT kvr)) D = some (.lst (((dW (stepsV ts' rs') st d).map (·.2)).map V.int)) := by rw [upd_ne Dg]; exact eD
    generalize upd H5 g (.dT kvr) = H6 at s3 eD4 ⊢
    refine ⟨D, _, rfl, .inl (SqL.of eD4), fun l nl => ?_⟩
    refine ⟨l, _, rfl, SqL.of upd_same, ?_, fun m hm hle => ?_⟩
    · rw [List.length_map]
      have : (st, ((0 : Nat) : Int)) ∈ dW (stepsV ts' rs') st d := dW_mem (i := 0) (List.mem_singleton.mpr rfl) (Nat.zero_le _)
      exact List.length_pos_of_mem this
    have md : m = ((d : Nat) : Int) := by
      obtain ⟨p, hp, rfl⟩ := List.mem_map.mp hm
      obtain ⟨i, hi, _, hi2⟩ := dW_of hp
      obtain ⟨x, hx⟩ := List.exists_mem_of_ne_nil _ (dep.ne d (Nat.le_refl d))
      have := hle _ (List.mem_map.mpr ⟨_, dW_mem hx (Nat.le_refl d), rfl⟩)
      rw [hi2] at this ⊢
      have : ((d : Nat) : Int) ≤ (i : Nat) := this
      omega
    subst md
    have s4 := s3.trans (Same.new (o := .lst (((dW (stepsV ts' rs') st d).map (·.2)).map V.int)) nl)
    generalize upd H6 l (.lst (((dW (stepsV ts' rs') st d).map (·.2)).map V.int)) = HC at s4 ⊢
    refine ⟨(by show 2 ≤ sizeLine; decide), fun t2 nt2 => ⟨t2, _, rfl, SqT.of upd_same, rfl, _, _, rfl, _, _, rfl, rfl, ?_⟩⟩
    rw [lkr]
    have s5 := s4.trans (Same.new (o := .tup [.int ((Sn (stepsV ts' rs') st d).length : Nat), .int ((d : Nat) : Int)]) nt2)
    have ld : LD _ (stepsV ts' rs') st d g cc kvr kvc := ⟨s5 _ _ eg0, hk, s5 _ _ ecc, hkc⟩
    have lwD := lwB.ky (.of_same s5)
    have TD := tabs_kp TB_ (.of_same s5)
    have PD := PB.same s5
    generalize upd HC t2 (.tup [.int ((Sn (stepsV ts' rs') st d).length : Nat), .int ((d : Nat) : Int)]) = HD at ld lwD TD PD ⊢
    clear s3 s4 s5 eD4 eg0 ecc lwB TB_ PB hle hm nl nt2 eg1 b1 nD nD1 Dg b3 eg3 eD
    refine sq_st (σ' := sg a p v2 (some (.ref q)) (some (.ref q')) (some (.ref x2)) (some (.ref g)) (some (.ref cc)) (some (.int ((d : Nat) : Int))) v9 v10 v11 v12 v13 v14 v15 v16 (some (.ref x)) (some (.ref s0)) (some (.int ((Sn (stepsV ts' rs') st d).length : Nat))) v20 v21) rfl ?_
    generalize hmany : (Sn (stepsV ts' rs') st d).length = many at l120 lkr ⊢
    -- the layers that are due
    refine ⟨Nat.zero_le _, fun du ndu => ?_⟩
    refine gset_go (σ' := sg a p v2 (some (.ref q)) (some (.ref q')) (some (.ref x2)) (some (.ref g)) (some (.ref cc)) (some (.int ((d : Nat) : Int))) (some (.ref du)) v10 v11 v12 v13 v14 v15 v16 (some (.ref x)) (some (.ref s0)) (some (.int (many : Nat))) v20 v21) rfl ?_
    dsimp only
    have ndC : ((cW (stepsV ts' rs') st d).map (·.1)).Nodup := by rw [cW_keys]; exact Sn_nodup d
    refine ⟨_, rfl, _, _, rfl, rfl, _, rfl, by omega, by omega, ?_⟩
    refine for_range (lo := 0) (n := (((d : Nat) : Int) + 1).toNat) (fun k σ H' => ∃ (v13 : Option V) (vs : List V) (Ms : List (List Rw)), σ = sg a p v2 (some (.ref q)) (some (.ref q')) (some (.ref x2)) (some (.ref g)) (some (.ref cc)) (some (.int ((d : Nat) : Int))) (some (.ref du)) v10 v11 v12 v13 v14 v15 v16 (some (.ref x)) (some (.ref s0)) (some (.int (many : Nat))) v20 v21 ∧
        H' du = some (.lst vs) ∧ Paired (RowsV H') vs Ms ∧ Paired SortedOf Ms ((List.range k).map (Clr (stepsV ts' rs') st)) ∧ vs.length = k ∧ Same HD H')
      ⟨v13, [], [], rfl, upd_same, .nil, .nil, rfl, Same.new ndu⟩ ?_ ?_
    · rintro k σ HE hk1 ⟨v13, vs, Ms, rfl, edu, pvs, pMs, lvs, sE⟩
      have kd : k ≤ d := by omega
      refine gset_go (σ' := sg a p v2 (some (.ref q)) (some (.ref q')) (some (.ref x2)) (some (.ref g)) (some (.ref cc)) (some (.int ((d : Nat) : Int))) (some (.ref du)) v10 v11 v12 (some (.int (0 + (k : Int)))) v14 v15 v16 (some (.ref x)) (some (.ref s0)) (some (.int (many : Nat))) v20 v21) rfl ?_
      have egE := sE _ _ ld.eg
      have ecE := sE _ _ ld.ec
      have gcc : g ≠ cc := fun z => by
        have h1 := ld.hf.len
        have h2 := ld.hc
        have h3 : kvr = kvc := by
          have := ld.ec
          rw [← z, ld.eg] at this
          injection this with this
          injection this
        subst h3
        obtain ⟨w1, hw1, e1⟩ := ld.hf.at nd (dW_mem (S := stepsV ts' rs') (r := st) (i := 0) (List.mem_singleton.mpr rfl) (Nat.zero_le d))
        obtain ⟨w2, hw2, e2⟩ := ld.hc.at ndC (cW_mem (S := stepsV ts' rs') (r := st) (i := 0) (List.mem_singleton.mpr rfl) (Nat.zero_le d))
        rw [e1] at hw1
        rw [e2] at hw2
        have := hw1.symm.trans hw2
        injection this with this
        injection this with this
        exact absurd (show ((0 : Nat) : Int) = 1 from this) (by decide)
      refine ⟨_, rfl, .inl ⟨rfl, _, SqL.of edu⟩, g, .dT kvr, egE, trivial, fun od2 => ?_⟩
      refine ⟨_, rfl, g, od2, rfl, .inr ⟨kvr, upd_same, fun F nF => ?_⟩⟩
      have eg7 : (upd HE g (.frz od2 (.dT kvr))) g = some (.frz od2 (.dT kvr)) := upd_same
      have b7 : ∀ b o, b ≠ g → HE b = some o → (upd HE g (.frz od2 (.dT kvr))) b = some o := fun b o n e => by rw [upd_ne n]; exact e
      generalize upd HE g (.frz od2 (.dT kvr)) = H9 at eg7 b7 nF ⊢
      have Fg : F ≠ g := fun z => by rw [z, eg7] at nF; cases nF
      have nF6 : HE F = none := by
        cases e : HE F with
        | none => rfl
        | some o => rw [b7 F o Fg e] at nF; cases nF
      refine lc_it walk_keysT (fun j H' => ∃ ws, H' F = some (.lst ws) ∧ Paired (RowV H') ws ((atD k ((dW (stepsV ts' rs') st d).take j)).filter fun x => decide (cnt (stepsV ts' rs') st k x = 1)) ∧ ws.length ≤ j ∧ H' g = some (.frz od2 (.dT kvr)) ∧ (∀ b o, b ≠ g → HE b = some o → H' b = some o))
        ⟨[], upd_same, .nil, Nat.zero_le _, by rw [upd_ne (Ne.symm Fg)]; exact eg7, fun b o n e => by rw [upd_ne (ne_of_none e nF6)]; exact b7 b o n e⟩ (fun j H' _ ⟨_, _, _, _, e, _⟩ => e) ?_ ?_
      · rintro j y HA HA' hj ⟨ws, eF, pw, lw, eg8, b8⟩ ⟨rfl, key, val, ka, hkv, rfl, eka⟩
        obtain ⟨pp, ep, hkey, rfl⟩ := par_get ld.hf hkv
        obtain rfl : key = keyR pp.1 := hkey
        have jl := (List.getElem?_eq_some_iff.mp ep).1
        refine ⟨rfl, ?_⟩
        refine ⟨_, rfl, _, rfl, g, .int pp.2, rfl, .inr ⟨kvr, keyR pp.1, ka, .inr ⟨od2, eg8⟩, rfl, eka, (valV_nth ndK hkv).symm⟩, _, rfl, rfl, _, rfl, ?_⟩
        rw [take_next ep, atD_snoc]
        by_cases cp : pp.2 = ((k : Nat) : Int)
        · refine iteT' (decide_eq_true (by rw [cp, Int.zero_add])) ?_
          obtain ⟨i2, hi2, hx2, hi3⟩ := dW_of (List.mem_of_getElem? ep)
          have : i2 = k := by rw [cp] at hi3; omega
          subst this
          obtain ⟨w2, hw2, rfl⟩ := ld.hc.at ndC (cW_mem hx2 hi2)
          have hw2 : valV kvc (keyR pp.1) = some (.int (cnt (stepsV ts' rs') st i2 pp.1)) := hw2
          have ecA := b8 _ _ (Ne.symm gcc) ecE
          refine ⟨_, rfl, _, rfl, cc, .int (cnt (stepsV ts' rs') st i2 pp.1), rfl, .inr ⟨kvc, keyR pp.1, ka, .inl ecA, rfl, eka, hw2.symm⟩, rfl, _, rfl, ?_⟩
          rw [if_pos cp, filter_snoc, dec_int]
          refine ifT (fun c1 => ?_) (fun c1 => ?_)
          · have c1 := eq_of_beq c1
            rw [decide_eq_true c1, if_pos rfl]
            refine ⟨_, rfl, ws, eF, Nat.lt_of_le_of_lt (by omega : ws.length ≤ 3125) (by decide), ws ++ [V.ref ka], upd_same, ?_, by rw [List.length_append]; exact Nat.succ_le_succ lw, by rw [upd_ne (Ne.symm Fg)]; exact eg8, fun b o n e => by rw [upd_ne (ne_of_none e nF6)]; exact b8 b o n e⟩
            have up : ∀ b xs, HA' b = some (.tup xs) → (upd HA' F (.lst (ws ++ [V.ref ka]))) b = some (.tup xs) := fun b xs e => by rw [upd_ne (ne_of e eF (by intro z; cases z))]; exact e
            exact par_snoc (par_map (fun v x h => h.kp fun b xs e => up b _ e) pw) ⟨ka, rfl, up _ _ (by rw [eka, keyR_kV])⟩
          · have c1 : ¬ cnt (stepsV ts' rs') st i2 pp.1 = 1 := fun z => by rw [z] at c1; exact absurd c1 (by decide)
            rw [decide_eq_false c1, if_neg Bool.false_ne_true]
            exact ⟨ws, eF, pw, by omega, eg8, b8⟩
        · refine iteF' (decide_eq_false (fun z => cp (by rw [Int.zero_add] at z; injection z))) ?_
          rw [if_neg cp]
          exact ⟨ws, eF, pw, by omega, eg8, b8⟩
      rintro HA ⟨ws, eF, pw, lw, eg8, b8⟩
      rw [hk.len, List.take_length, atD_dW kd] at pw
      refine ⟨eg8, ?_⟩
      have s8 : Same HE (upd HA g (.dT kvr)) := fun b o e => by
        by_cases c : b = g
        · rw [c] at e ⊢
          rw [upd_same, ← egE, e]
        · rw [upd_ne c]
          exact b8 b o c e
      have eF9 : (upd HA g (.dT kvr)) F = some (.lst ws) := by rw [upd_ne Fg]; exact eF
      have pw9 : Paired (RowV (upd HA g (.dT kvr))) ws (Clr (stepsV ts' rs') st k) := par_map (fun v x h => h.kp fun b xs e => by rw [upd_ne (ne_of e eg8 (by intro z; cases z))]; exact e) pw
      generalize upd HA g (.dT kvr) = HB at s8 eF9 pw9 ⊢
      refine ⟨F, ws, rfl, .inl (SqL.of eF9), by omega, fun z hz => ?_, fun zs qq hp hs nq => ?_⟩
      · obtain ⟨j, hj⟩ := List.mem_iff_getElem?.mp hz
        obtain ⟨xx, ex, b, rfl, hb⟩ := par_get pw9 hj
        refine ⟨xx, ⟨b, rfl, SqT.of hb⟩, fun e => ?_⟩
        have h1 := (ly_perm yp' lst k _ (mem_clr.mp (List.mem_of_getElem? ex)).1).length_eq
        rw [e, lst] at h1
        have h2 := yp'.n1
        have h1 : 0 = n := h1
        omega
      obtain ⟨M, pM, sM⟩ := rows_sorted (K := K) pw9 hp hs
      have sq := Same.new (o := .lst zs) nq
      refine ⟨qq, zs, rfl, .inl ⟨SqL.of upd_same, fun tt ntt => ?_⟩⟩
      have st_ := Same.new (o := .tup zs) ntt
      have sA := (s8.trans sq).trans st_
      have eduA := sA _ _ edu
      refine ⟨du, vs, _, rfl, rfl, eduA, Nat.lt_of_le_of_lt (by omega : vs.length ≤ 200) (by decide), ?_⟩
      refine ⟨_, vs ++ [.ref tt], Ms ++ [M], rfl, upd_same, ?_, ?_, by rw [List.length_append, lvs]; rfl, Same.upd_new (sE.trans sA) ndu⟩
      · have up : ∀ b xs, (upd (upd HB qq (.lst zs)) tt (.tup zs)) b = some (.tup xs) → (upd (upd (upd HB qq (.lst zs)) tt (.tup zs)) du (.lst (vs ++ [.ref tt]))) b = some (.tup xs) := fun b xs e => by
          rw [upd_ne (ne_of e eduA (by intro z; cases z))]
          exact e
        exact par_snoc (par_map (fun v M h => h.kp fun b xs e => up _ _ (sA _ _ e)) pvs) ⟨tt, zs, rfl, up _ _ upd_same, par_map (fun v r h => h.kp fun b xs e => up _ _ (st_ _ _ (sq _ _ e))) pM⟩
      · rw [List.range_succ, List.map_append]
        exact par_snoc pMs sM
    rintro σ HE ⟨v13, vs, Ms, rfl, edu, pvs, pMs, lvs, sE⟩
    rw [show (((d : Nat) : Int) + 1).toNat = d + 1 by omega] at pMs lvs
    have lu : LU HE (stepsV ts' rs') st d du vs Ms := ⟨edu, pvs, pMs⟩
    have lwE := lwD.ky (.of_same sE)
    have ldE := ld.ky (.of_same sE)
    have TE_ := tabs_kp TD (.of_same sE)
    have PE_ := PD.same sE
    clear lwD ld TD PD sE edu pvs ndu
    -- the layers as they are shown
    have smallC := clr_small yp' lst n5 h0 lu.s
    have lMs : Ms.length = d + 1 := by rw [Paired.length lu.s, List.length_map, List.length_range]
    have lvs : vs.length = d + 1 := by rw [Paired.length lu.p, lMs]
    have shMs := sh_lys (by omega) smallC
    refine ⟨_, rfl, _, rfl, _, rfl, _, rfl, s0, _, rfl, .inr (SqT.of lwE.hs), fun sl nsl => ⟨(by show 2 ≤ sizeLine; decide), fun lp nlp => ?_⟩⟩
    have sC := (Same.new (o := .lst (st.map V.int)) nsl).trans (Same.new (o := .lst [V.ref s0, .ref sl]) nlp)
    have esl := Same.new (o := .lst [V.ref s0, .ref sl]) nlp _ _ (upd_same (H := HE) (a := sl) (o := .lst (st.map V.int)))
    refine ⟨p, c0, lp, _, B + 169, rfl, PE_.same sC, .inl (SqL.of upd_same), by simp, by show 2 ≤ 1000000; decide, fun y iy HA hiy PA BA => ?_⟩
    have hs10 := sC _ _ lwE.hs
    obtain ⟨kvp, hkp⟩ := (PE_.same sC).there
    have kpA : Kp HE HA := (Kp.of_same sC).trans (.of_but BA hkp)
    obtain ⟨sh, rfl, hsh⟩ : ∃ sh, y = .ref sh ∧ ShR K HA sh st := by
      match iy, hiy with
      | 0, hiy =>
        obtain rfl : V.ref s0 = y := Option.some.inj hiy
        exact ⟨s0, rfl, .inr (BA.keep hkp hs10 (by intro z; cases z))⟩
      | 1, hiy =>
        obtain rfl : V.ref sl = y := Option.some.inj hiy
        exact ⟨sl, rfl, .inl (BA.keep hkp esl (by intro z; cases z))⟩
    have lwA := lwE.ky (.of_kp kpA)
    have ldA := ldE.ky (.of_kp kpA)
    have luA := lu.ky (.of_kp kpA)
    have TA := tabs_kp TE_ kpA
    clear lwE ldE lu TE_ PE_ sC esl hs10 BA hkp kpA hiy nsl nlp
    refine ⟨_, rfl, x, sh, n, d, ts, ts', rs, rs', st, _, rfl, lwA.yo, ok, n5, hsh.at_, lst, p0, trn, dep, .inl ⟨by rw [hmany]; exact Int.le_refl _, fun v2_ Ms2 HC hv2 hs2 sD => ?_⟩⟩
    obtain rfl := sorted_uniq luA.s hs2
    obtain ⟨w1, w2, w3, w4⟩ := sh_rs shMs (by decide) (by decide)
    refine ⟨_, lysD Ms, rfl, dq_lays hv2, w1, w2, w3, w4, ?_⟩
    have luC := luA.ky (.of_same sD)
    refine ⟨_, rfl, du, vs, rfl, .inl ⟨SqL.of luC.e, fun t4 nt4 => ?_⟩⟩
    have s4 := Same.new (o := .tup vs) nt4
    refine ⟨_, lysD Ms, rfl, dq_lays ⟨t4, vs, rfl, upd_same, par_map (fun v M h => h.kp fun b xs e => s4 _ _ e) luC.p⟩, w1, w2, w3, w4, ?_⟩
    refine ⟨rfl, _, rfl, iteF' (by rw [decide_eq_true rfl]; rfl) ?_⟩
    have lwF := lwA.ky (.of_same (sD.trans s4))
    have ldF := ldA.ky (.of_same (sD.trans s4))
    have luF := luA.ky (.of_same (sD.trans s4))
    have TF := tabs_kp TA (.of_same (sD.trans s4))
    have PF := PA.same (sD.trans s4)
    generalize upd HC t4 (.tup vs) = HF at lwF ldF luF TF PF ⊢
    clear lwA ldA luA TA PA luC s4 sD hv2 hs2 hsh nt4 w1 w2 w3 w4 shMs
    -- five stands
    refine ⟨5, rfl, by omega, by omega, ?_⟩
    refine for_range (lo := 0) (n := (5 : Int).toNat) (fun j σ H' => ∃ (v10 v11 v12 : Option V), σ = sg a p v2 (some (.ref q)) (some (.ref q')) (some (.ref x2)) (some (.ref g)) (some (.ref cc)) (some (.int ((d : Nat) : Int))) (some (.ref du)) v10 v11 v12 v13 v14 v15 v16 (some (.ref x)) (some (.ref s0)) (some (.int (many : Nat))) v20 v21 ∧ Ky HF H' ∧ Tabs [(Pt, qLam)] H' ∧ Pen H' p c0 (B + 169 - 2 * j))
      ⟨v10, v11, v12, rfl, .of_same (Same.refl' _), TF, PF⟩ ?_ ?_
    · rintro j σ HG hj ⟨v10, v11, v12, rfl, kyG, TG_, PG⟩
      have hj : j < 5 := hj
      refine gset_go (σ' := sg a p v2 (some (.ref q)) (some (.ref q')) (some (.ref x2)) (some (.ref g)) (some (.ref cc)) (some (.int ((d : Nat) : Int))) (some (.ref du)) (some (.int (0 + (j : Int)))) v11 v12 v13 v14 v15 v16 (some (.ref x)) (some (.ref s0)) (some (.int (many : Nat))) v20 v21) rfl ?_
      generalize some (V.int (0 + (j : Int))) = v10
      have ldG := ldF.ky kyG
      refine ⟨_, rfl, _, rfl, g, kvr, rfl, .inl ldG.eg, by omega, fun kv hkv => ?_, fun bs ys pl hb hp hs npl => ?_⟩
      · obtain ⟨jj, hjj⟩ := List.mem_iff_getElem?.mp hkv
        obtain ⟨pp, epp, e1, _⟩ := par_get ldG.hf hjj
        refine ⟨pp.1, e1, .inl fun z => ?_⟩
        obtain ⟨i2, _, hx2, _⟩ := dW_of (List.mem_of_getElem? epp)
        have h1 := (ly_perm yp' lst i2 _ hx2).length_eq
        rw [z, lst] at h1
        have h2 := yp'.n1
        have h1 : 0 = n := h1
        omega
      have kdG := ldG.hf.keysD
      rw [dW_keys] at kdG
      obtain ⟨M, pM, sM⟩ := rows_sorted (K := K) (keys_rows hb kdG) hp hs
      have lys : ys.length = many := by rw [Paired.length pM, sM.perm.length_eq, hmany]
      have spl := Same.new (o := .lst ys) npl
      refine ⟨p, c0, pl, ys, B + 169 - 2 * j - 1, rfl, (PG.same spl).less (by omega), .inl (SqL.of upd_same), fun z => ?_, by omega, fun y io HH hyo PH BH => ?_⟩
      · rw [z] at lys
        have := List.length_pos_of_mem (Sn_mono (S := stepsV ts' rs') (r := st) (Nat.zero_le d) st (List.mem_singleton.mpr rfl))
        rw [hmany] at this
        simp at lys
        omega
      obtain ⟨xo, exo, ao, rfl, eao⟩ := par_get pM hyo
      have hxo : xo ∈ Sn (stepsV ts' rs') st d := sM.perm.mem_iff.mp (List.mem_of_getElem? exo)
      obtain ⟨i2, hi2, hx2⟩ := Sn_mem d xo hxo
      obtain ⟨kvG, hkG⟩ := (PG.same spl).there
      have kpH : Kp HG HH := (Kp.of_same spl).trans (.of_but BH hkG)
      have kyH := kyG.trans (.of_kp kpH)
      have TH := tabs_kp TG_ kpH
      have eaoH := (Ky.of_kp kpH).tup eao
      clear ldG hb hp hs npl kdG pM sM lys spl hyo exo eao BH hkG kpH kyG TG_ PG
      refine gset_go (σ' := sg a p v2 (some (.ref q)) (some (.ref q')) (some (.ref x2)) (some (.ref g)) (some (.ref cc)) (some (.int ((d : Nat) : Int))) (some (.ref du)) v10 (some (.ref ao)) v12 v13 v14 v15 v16 (some (.ref x)) (some (.ref s0)) (some (.int (many : Nat))) v20 v21) rfl ?_
      dsimp only
      -- its row
      refine ⟨_, rfl, _, rfl, _, rfl, _, rfl, _, rfl, ao, _, rfl, .inr (SqT.of eaoH), fun sl nsl => ⟨(by show 2 ≤ sizeLine; decide), fun lp nlp => ?_⟩⟩
      have sC := (Same.new (o := .lst (xo.map V.int)) nsl).trans (Same.new (o := .lst [V.ref ao, .ref sl]) nlp)
      have esl := Same.new (o := .lst [V.ref ao, .ref sl]) nlp _ _ (upd_same (H := HH) (a := sl) (o := .lst (xo.map V.int)))
      refine ⟨p, c0, lp, _, B + 169 - 2 * (j + 1), rfl, (PH.same sC).less (by omega), .inl (SqL.of upd_same), by simp, by show 2 ≤ 1000000; decide, fun y iy HI hiy PI_ BI => ?_⟩
      have eao2 := sC _ _ eaoH
      obtain ⟨kvp, hkp⟩ := (PH.same sC).there
      have kpI : Kp HH HI := (Kp.of_same sC).trans (.of_but BI hkp)
      obtain ⟨ash, rfl, hash⟩ : ∃ ash, y = .ref ash ∧ ShR K HI ash xo := by
        match iy, hiy with
        | 0, hiy =>
          obtain rfl : V.ref ao = y := Option.some.inj hiy
          exact ⟨ao, rfl, .inr (BI.keep hkp eao2 (by intro z; cases z))⟩
        | 1, hiy =>
          obtain rfl : V.ref sl = y := Option.some.inj hiy
          exact ⟨sl, rfl, .inl (BI.keep hkp esl (by intro z; cases z))⟩
      have kyI := kyH.trans (.of_kp kpI)
      have TI := tabs_kp TH kpI
      have eaoI := (Ky.of_kp kpI).tup eaoH
      clear hiy BI hkp esl eao2 sC nsl nlp kpI kyH TH PH eaoH
      have lwI := lwF.ky kyI
      have ndC : ((cW (stepsV ts' rs') st d).map (·.1)).Nodup := by rw [cW_keys]; exact Sn_nodup d
      have cgt : ∀ {H' : Hp}, Ky HI H' → DGet H' cc (.ref ao) (some (.int (cnt (stepsV ts' rs') st i2 xo))) := fun {H'} kk => by
        have ldI := ldF.ky (kyI.trans kk)
        obtain ⟨w1, hw1, rfl⟩ := ldI.hc.at ndC (cW_mem hx2 hi2)
        have hw1 : valV kvc (keyR xo) = some (.int (cnt (stepsV ts' rs') st i2 xo)) := hw1
        rw [← hw1]
        exact DGet.t ldI.ec (by rw [keyR_kV]; exact kk.tup eaoI)
      refine ⟨_, rfl, x, s0, ash, n, d, ts, ts', rs, rs', st, xo, _, rfl, lwI.yo, ok, n5, .inr lwI.hs, hash.at_, lst, p0, trn, dep, .inl ⟨by rw [hmany]; exact Int.le_refl _, fun hn HJ sJ => ?_, fun k2 hk2 hcl tr yr msr HJ etr hmr hR sJ => ?_⟩⟩
      · refine gset_go (σ' := sg a p v2 (some (.ref q)) (some (.ref q')) (some (.ref x2)) (some (.ref g)) (some (.ref cc)) (some (.int ((d : Nat) : Int))) (some (.ref du)) v10 (some (.ref ao)) (some .non) v13 v14 v15 v16 (some (.ref x)) (some (.ref s0)) (some (.int (many : Nat))) v20 v21) rfl ?_
        have c1 : cnt (stepsV ts' rs') st i2 xo ≠ 1 := fun z => hn i2 hi2 (mem_clr.mpr ⟨hx2, z⟩)
        refine ⟨_, rfl, rfl, _, rfl, _, rfl, cc, _, rfl, cgt (.of_same sJ), rfl, rfl, _, rfl, iteF' ?_ ?_⟩
        · have e1 : decide ((V.int (cnt (stepsV ts' rs') st i2 xo)) = V.int 1) = false := decide_eq_false fun z => c1 (by injection z)
          simp only [e1]
          decide
        refine ⟨_, rfl, rfl, _, rfl, iteF' rfl (iteF' rfl ?_)⟩
        exact ⟨_, _, _, rfl, kyI.trans (.of_same sJ), tabs_kp TI (.of_same sJ), PI_.same sJ⟩
      · refine gset_go (σ' := sg a p v2 (some (.ref q)) (some (.ref q')) (some (.ref x2)) (some (.ref g)) (some (.ref cc)) (some (.int ((d : Nat) : Int))) (some (.ref du)) v10 (some (.ref ao)) (some (.ref tr)) v13 v14 v15 v16 (some (.ref x)) (some (.ref s0)) (some (.int (many : Nat))) v20 v21) rfl ?_
        obtain rfl := clr_one hcl hx2
        have c1 := (mem_clr.mp hcl).2
        refine ⟨_, rfl, rfl, _, rfl, _, rfl, cc, _, rfl, cgt (.of_same sJ), rfl, rfl, _, rfl, iteF' ?_ ?_⟩
        · have e0 : decide (V.ref tr = V.non) = false := decide_eq_false (fun z => by cases z)
          simp only [c1, e0]
          decide
        refine ⟨_, rfl, rfl, _, rfl, iteT' rfl ?_⟩
        have lwJ := lwI.ky (.of_same sJ)
        have ldJ := ldF.ky (kyI.trans (.of_same sJ))
        refine ⟨_, rfl, _, rfl, _, rfl, _, rfl, _, rfl, _, rfl, q, s0, g, cc, ao, tr, n, d, k2, ts, ts', rs, rs', st, xo, kvr, kvc, yr, msr, rfl, lwJ.yd, ok, n5, lwJ.hs, lst, trn, ldJ.eg, ldJ.hf, ldJ.ec, ldJ.hc, sJ _ _ eaoI, hx2, hi2, etr, hmr, hR, fun HK sK => ?_⟩
        refine ⟨_, rfl, iteF' rfl ?_⟩
        have sJK := sJ.trans sK
        exact ⟨_, _, _, rfl, kyI.trans (.of_same sJK), tabs_kp TI (.of_same sJK), PI_.same sJK⟩
    rintro σ HG ⟨v10, v11, v12, rfl, kyG, TG_, PG⟩
    have PG : Pen HG p c0 (B + 150) := PG.less (by have : (5 : Int).toNat = 5 := rfl; omega)
    have lwG := lwF.ky kyG
    have ldG := ldF.ky kyG
    have luG := luF.ky kyG
    clear lwF ldF luF TF PF kyG
    -- another stand
    refine ⟨_, rfl, _, rfl, p, c0, s0, st, B + 140, rfl, PG, SqT.of lwG.hs, by have := yp'.n1; omega, by omega, fun tf st' HH etf lst' _ kpH PH => ?_⟩
    refine gset_go (σ' := sg a p v2 (some (.ref q)) (some (.ref q')) (some (.ref x2)) (some (.ref g)) (some (.ref cc)) (some (.int ((d : Nat) : Int))) (some (.ref du)) v10 v11 v12 v13 v14 v15 v16 (some (.ref x)) (some (.ref s0)) (some (.int (many : Nat))) v20 (some (.ref tf))) rfl ?_
    have lwH := lwG.ky (.of_kp kpH)
    have ldH := ldG.ky (.of_kp kpH)
    have luH := luG.ky (.of_kp kpH)
    have TH := tabs_kp TG_ kpH
    clear lwG ldG luG TG_ PG kpH
    have gin := ldH.hf.some_iff nd (r := st')
    rw [dW_keys] at gin
    refine ⟨_, rfl, _, rfl, g, _, rfl, DGet.t ldH.eg (k := keyR st') (by rw [keyR_kV]; exact etf), ?_⟩
    rw [gin]
    clear gin
    refine ⟨_, rfl, ?_⟩
    refine ifGo2 (H := HH) (fun HI sI => ?_) (fun hc rest => ?_)
    case refine_2 =>
      have hc : st' ∉ Sn (stepsV ts' rs') st d := by simpa using hc
      refine ⟨_, rfl, _, rfl, _, rfl, _, rfl, x, s0, tf, n, d, ts, ts', rs, rs', st, st', _, rfl, lwH.yo, ok, n5, .inr lwH.hs, .inr etf, lst, p0, trn, dep, .inl ⟨by rw [hmany]; exact Int.le_refl _, fun hn HI sI => ?_, fun k2 hk2 hcl => absurd (clr_sn hk2 hcl) hc⟩⟩
      exact ⟨rfl, _, rfl, iteF' rfl (rest HI sI)⟩
    have lwI := lwH.ky (.of_same sI)
    have ldI := ldH.ky (.of_same sI)
    have luI := luH.ky (.of_same sI)
    have etf := sI _ _ etf
    have TI := tabs_kp TH (.of_same sI)
    have PI_ := PH.same sI
    clear lwH ldH luH TH PH sI
    -- the deepest of those with one way
    refine ⟨_, rfl, _, _, rfl, rfl, _, rfl, by omega, by omega, fun D nD => ?_⟩
    refine lc_range (lo := 0) (n := (((d : Nat) : Int) + 1).toNat) (fun j H' => H' D = some (.lst (((List.range (min j (dd + 1))).map fun k => ((k : Nat) : Int)).map V.int)) ∧ Same HI H') ⟨by rw [Nat.zero_min]; exact upd_same, Same.new nD⟩ (fun j H' hj h => ?_) (fun H' h => ?_)
    · obtain ⟨eD, sJ⟩ := h
      have hj : j ≤ d := by omega
      obtain ⟨w, hw⟩ : ∃ w, vs[j]? = some w := ⟨_, List.getElem?_eq_getElem (by omega)⟩
      obtain ⟨M, eM, hM⟩ := par_get luI.p hw
      obtain ⟨L, eL, hML⟩ := par_get luI.s eM
      rw [List.getElem?_map, List.getElem?_range (by omega)] at eL
      obtain rfl : Clr (stepsV ts' rs') st j = L := Option.some.inj eL
      refine ⟨rfl, ?_⟩
      refine ⟨_, rfl, _, rfl, du, vs, _, w, rfl, rfl, SqL.of (sJ _ _ luI.e), by rw [Int.zero_add]; exact atI_nat hw, (by show 0 ≤ sizeLine; decide), fun t0 nt0 => ?_⟩
      have s0_ := Same.new (o := .tup []) nt0
      have sJ0 := sJ.trans s0_
      refine ⟨M, [], (hM.kp fun b xs e => sJ0 _ _ e).a, ⟨t0, [], rfl, SqT.of upd_same, .nil⟩, _, rfl, ?_⟩
      have eD0 := s0_ _ _ eD
      have dj := deep.iff j hj
      have emp : M = [] ↔ Clr (stepsV ts' rs') st j = [] := by rw [← List.length_eq_zero_iff, ← List.length_eq_zero_iff, hML.perm.length_eq]
      by_cases c : j ≤ dd
      · refine iteT' (by rw [decide_eq_false (fun z => dj.mpr c (emp.mp z))]; rfl) ?_
        refine ⟨_, rfl, _, eD0, by rw [List.length_map, List.length_map, List.length_range]; exact Nat.lt_of_le_of_lt (by omega : _ ≤ 200) (by decide), ?_, Same.upd_new sJ0 nD⟩
        rw [upd_same, show min (j + 1) (dd + 1) = j + 1 by omega, show min j (dd + 1) = j by omega, List.range_succ, List.map_append, List.map_append, Int.zero_add]
        rfl
      · refine iteF' (by rw [decide_eq_true (emp.mpr (Classical.byContradiction fun z => c (dj.mp z)))]; rfl) ?_
        refine ⟨?_, sJ0⟩
        rw [show min (j + 1) (dd + 1) = dd + 1 by omega]
        rwa [show min j (dd + 1) = dd + 1 by omega] at eD0
    obtain ⟨eD, sJ⟩ := h
    rw [show min (((d : Nat) : Int) + 1).toNat (dd + 1) = dd + 1 by have := deep.le; omega] at eD
    refine ⟨D, _, rfl, SqL.of eD, by rw [List.length_map, List.length_range]; omega, fun m hm hle => ?_⟩
    have md : m = ((dd : Nat) : Int) := by
      obtain ⟨i2, hi2, rfl⟩ := List.mem_map.mp hm
      have h1 := List.mem_range.mp hi2
      have h2 := hle _ (List.mem_map.mpr ⟨dd, List.mem_range.mpr (by omega), rfl⟩)
      omega
    subst md
    have lwJ := lwI.ky (.of_same sJ)
    have ldJ := ldI.ky (.of_same sJ)
    have luJ := luI.ky (.of_same sJ)
    have etf := sJ _ _ etf
    have TJ := tabs_kp TI (.of_same sJ)
    have PJ := PI_.same sJ
    clear lwI ldI luI TI PI_ sJ eD hm hle nD
    generalize H' = HJ at lwJ ldJ luJ TJ PJ etf ⊢
    refine gset_go (σ' := sg a p v2 (some (.ref q)) (some (.ref q')) (some (.ref x2)) (some (.ref g)) (some (.ref cc)) (some (.int ((d : Nat) : Int))) (some (.ref du)) v10 v11 v12 v13 (some (.int ((dd : Nat) : Int))) v15 v16 (some (.ref x)) (some (.ref s0)) (some (.int (many : Nat))) v20 (some (.ref tf))) rfl ?_
    dsimp only
    have dle := deep.le
    obtain ⟨w, hw⟩ : ∃ w, vs[dd]? = some w := ⟨_, List.getElem?_eq_getElem (by omega)⟩
    obtain ⟨M, eM, hM⟩ := par_get luJ.p hw
    obtain ⟨L, eL, hML⟩ := par_get luJ.s eM
    rw [List.getElem?_map, List.getElem?_range (by omega)] at eL
    obtain rfl : Clr (stepsV ts' rs') st dd = L := Option.some.inj eL
    refine ⟨_, rfl, _, rfl, _, rfl, _, _, rfl, rfl, x, s0, n, d, dd, ts, ts', rs, rs', st, _, rfl, lwJ.yo, ok, n5, .inr lwJ.hs, lst, p0, trn, dep, deep, .inl ⟨by omega, fun qh vh Mh HK eqh hvh hMh sK => ?_⟩⟩
    obtain rfl := hML.uniq hMh
    refine ⟨_, rfl, _, rfl, _, rfl, du, vs, _, w, rfl, rfl, SqL.of (sK _ _ luJ.e), atI_nat hw, (by show 2 ≤ sizeLine; decide), fun t5 nt5 => ?_⟩
    have s5 := Same.new (o := .tup [.int ((dd : Nat) : Int), w]) nt5
    refine ⟨_, _, pair_dp (s5 _ _ eqh) (hvh.kp fun b xs e => s5 _ _ e), pair_dp upd_same (hM.kp fun b xs e => s5 _ _ (sK _ _ e)), pair_shaped _ _, pair_shaped _ _, _, rfl, iteF' (by rw [pair_self]; rfl) ?_⟩
    have sK5 := sK.trans s5
    have lwK := lwJ.ky (.of_same sK5)
    have ldK := ldJ.ky (.of_same sK5)
    have luK := luJ.ky (.of_same sK5)
    have etfK := sK5 _ _ etf
    have TK_ := tabs_kp TJ (.of_same sK5)
    have PK_ := PJ.same sK5
    generalize upd HK t5 (.tup [.int ((dd : Nat) : Int), w]) = HL at lwK ldK luK etfK TK_ PK_ ⊢
    clear lwJ ldJ luJ etf TJ PJ sK5 s5 sK eqh hvh hMh nt5 hM hML eM hw
    -- one of the stands, by its number
    obtain ⟨kvL, hkL⟩ := PK_.there
    refine ⟨_, rfl, _, rfl, _, _, rfl, rfl, p, c0, _, B + 139, rfl, PK_, by omega, by omega, fun n0 HM n00 n0d PM BM => ?_⟩
    obtain ⟨kk, rfl⟩ : ∃ kk : Nat, n0 = (kk : Int) := ⟨n0.toNat, by omega⟩
    have kdd : kk ≤ dd := by omega
    refine gset_go (σ' := sg a p v2 (some (.ref q)) (some (.ref q')) (some (.ref x2)) (some (.ref g)) (some (.ref cc)) (some (.int ((d : Nat) : Int))) (some (.ref du)) v10 v11 v12 (some (.int ((kk : Nat) : Int))) (some (.int ((dd : Nat) : Int))) v15 v16 (some (.ref x)) (some (.ref s0)) (some (.int (many : Nat))) v20 (some (.ref tf))) rfl ?_
    have kpM : Kp HL HM := .of_but BM hkL
    have lwM := lwK.ky (.of_kp kpM)
    have ldM := ldK.ky (.of_kp kpM)
    have luM := luK.ky (.of_kp kpM)
    have etfM := (Ky.of_kp kpM).tup etfK
    have TM_ := tabs_kp TK_ kpM
    clear lwK ldK luK etfK TK_ PK_ kpM BM hkL n00 n0d
    obtain ⟨w, hw⟩ : ∃ w, vs[kk]? = some w := ⟨_, List.getElem?_eq_getElem (by omega)⟩
    obtain ⟨M, eM, hM⟩ := par_get luM.p hw
    obtain ⟨L, eL, hML⟩ := par_get luM.s eM
    rw [List.getElem?_map, List.getElem?_range (by omega)] at eL
    obtain rfl : Clr (stepsV ts' rs') st kk = L := Option.some.inj eL
    obtain ⟨mt, mvs, rfl, emt, pM⟩ := hM
    have lmv : mvs.length = (Clr (stepsV ts' rs') st kk).length := by rw [Paired.length pM, hML.perm.length_eq]
    have cne : Clr (stepsV ts' rs') st kk ≠ [] := (deep.iff kk (by omega)).mpr kdd
    have cpos : 0 < (Clr (stepsV ts' rs') st kk).length := List.length_pos_iff.mpr cne
    have c120 := clr120 (r := st) yp' lst n5 kk
    generalize hcl_ : (Clr (stepsV ts' rs') st kk).length = cl at lmv cpos c120
    obtain ⟨kvM, hkM⟩ := PM.there
    refine ⟨_, rfl, _, rfl, _, rfl, du, vs, _, _, rfl, rfl, SqL.of luM.e, atI_nat hw, mt, mvs, rfl, .inr (SqT.of emt), p, c0, _, B + 138, rfl, PM, by omega, by omega, fun n1 HN n10 n1d PN BN => ?_⟩
    obtain ⟨mm, rfl⟩ : ∃ mm : Nat, n1 = (mm : Int) := ⟨n1.toNat, by omega⟩
    have mcl : mm < cl := by omega
    refine gset_go (σ' := sg a p v2 (some (.ref q)) (some (.ref q')) (some (.ref x2)) (some (.ref g)) (some (.ref cc)) (some (.int ((d : Nat) : Int))) (some (.ref du)) v10 v11 v12 (some (.int ((kk : Nat) : Int))) (some (.int ((dd : Nat) : Int))) (some (.int ((mm : Nat) : Int))) v16 (some (.ref x)) (some (.ref s0)) (some (.int (many : Nat))) v20 (some (.ref tf))) rfl ?_
    dsimp only
    have kpN : Kp HM HN := .of_but BN hkM
    have lwN := lwM.ky (.of_kp kpN)
    have ldN := ldM.ky (.of_kp kpN)
    have luN := luM.ky (.of_kp kpN)
    have etfN := (Ky.of_kp kpN).tup etfM
    have TN_ := tabs_kp TM_ kpN
    have emtN := (Ky.of_kp kpN).tup emt
    have pMN := par_map (fun v r (h : RowV HM v r) => h.kp fun b xs e => (Ky.of_kp kpN).tup e) pM
    clear lwM ldM luM etfM TM_ PM kpN BN hkM n10 n1d pM emt
    obtain ⟨vz, hvz⟩ : ∃ vz, mvs[mm]? = some vz := ⟨_, List.getElem?_eq_getElem (by omega)⟩
    obtain ⟨z, ez, hz⟩ := par_get pMN hvz
    have farT : farB (stepsV ts' rs') st (.int ((kk : Nat) : Int)) d = true := by
      rw [farB_nat, decide_eq_true (by omega)]
      cases h : Clr (stepsV ts' rs') st kk with
      | nil => exact absurd h cne
      | cons _ _ => rfl
    have numT : numB (.int ((mm : Nat) : Int)) (Clr (stepsV ts' rs') st (natD (.int ((kk : Nat) : Int)))).length = true := by
      show numB (.int ((mm : Nat) : Int)) (Clr (stepsV ts' rs') st ((kk : Nat) : Int).toNat).length = true
      rw [Int.toNat_natCast, hcl_, numB_nat, decide_eq_true mcl]
    refine ⟨_, rfl, _, rfl, _, rfl, _, rfl, _, rfl, x, s0, _, _, .int ((kk : Nat) : Int), .int ((mm : Nat) : Int), n, d, ts, ts', rs, rs', st, _, rfl, lwN.yo, ok, n5, .inr lwN.hs, lst, p0, .int _, .int _, trn, dep, .inl ⟨by rw [hmany]; exact Int.le_refl _, .inr (.inr ⟨farT, numT, fun M2 v2_ z2 HO_ hM2 hz2 hv2 sO => ?_⟩)⟩⟩
    have hM2 : SortedOf M2 (Clr (stepsV ts' rs') st ((kk : Nat) : Int).toNat) := hM2
    rw [Int.toNat_natCast] at hM2
    obtain rfl := hML.uniq hM2
    have hz2 : M[((mm : Nat) : Int).toNat]? = some z2 := hz2
    rw [Int.toNat_natCast, ez] at hz2
    obtain rfl := Option.some.inj hz2
    refine ⟨_, rfl, _, rfl, du, vs, _, _, rfl, rfl, SqL.of (sO _ _ luN.e), atI_nat hw, _, rfl, mt, mvs, _, vz, rfl, rfl, SqT.of (sO _ _ emtN), atI_nat hvz, ?_⟩
    refine ⟨z, z, hv2.a, (hz.kp fun b xs e => sO _ _ e).a, _, rfl, iteF' (by rw [decide_eq_true rfl]; rfl) ?_⟩
    have lwO := lwN.ky (.of_same sO)
    have ldO := ldN.ky (.of_same sO)
    have luO := luN.ky (.of_same sO)
    have etfO := sO _ _ etfN
    have TO_ := tabs_kp TN_ (.of_same sO)
    have PO_ := PN.same sO
    have emtO := sO _ _ emtN
    clear lwN ldN luN etfN TN_ PN sO emtN pMN hz2 hM2 hv2 hz ez hvz
    -- a number that is none, of a distance
    refine ⟨_, rfl, _, rfl, _, _, rfl, rfl, 1, rfl, (by show 6 ≤ sizeLine; decide), fun lp nlp => ?_⟩
    have sP := Same.new (o := .lst [V.int (((dd : Nat) : Int) + 1), .int (-1), .non, .bl true, .bl false, .str "1"]) nlp
    refine ⟨p, c0, lp, _, B + 137, rfl, PO_.same sP, .inl (SqL.of upd_same), by simp, by show 6 ≤ 1000000; decide, fun y iy HA hiy PA BA => ?_⟩
    obtain ⟨dt, dqt, oddt, farF⟩ := odd_far deep (by omega) hiy
    obtain ⟨kvp, hkp⟩ := (PO_.same sP).there
    have kpA : Kp HO_ HA := (Kp.of_same sP).trans (.of_but BA hkp)
    have lwA := lwO.ky (.of_kp kpA)
    have ldA := ldO.ky (.of_kp kpA)
    have luA := luO.ky (.of_kp kpA)
    have etfA := (Ky.of_kp kpA).tup etfO
    have TA := tabs_kp TO_ kpA
    have emtA := (Ky.of_kp kpA).tup emtO
    clear lwO ldO luO etfO TO_ PO_ emtO sP nlp BA hkp kpA hiy
    refine gset_go (σ' := sg a p v2 (some (.ref q)) (some (.ref q')) (some (.ref x2)) (some (.ref g)) (some (.ref cc)) (some (.int ((d : Nat) : Int))) (some (.ref du)) v10 v11 v12 (some (.int ((kk : Nat) : Int))) (some (.int ((dd : Nat) : Int))) (some (.int ((mm : Nat) : Int))) v16 (some (.ref x)) (some (.ref s0)) (some (.int (many : Nat))) (some y) (some (.ref tf))) rfl ?_
    dsimp only
    refine ⟨TA, fun H1 eN T1 H2_ s2 R => ?_⟩
    have lwB := (lwA.ky (.of_ext eN)).ky (.of_same s2)
    refine ⟨_, rfl, _, rfl, _, rfl, 1, rfl, _, rfl, x, s0, y, .int (-1), dt, .int (-1), n, d, ts, ts', rs, rs', st, _, rfl, lwB.yo, ok, n5, .inr lwB.hs, lst, p0, dqt _ _, .int _, trn, dep, .inl ⟨by rw [hmany]; exact Int.le_refl _, .inl ⟨farF, fun ee H3 s3 e3 => .inr ⟨rfl, ee, _, _, dt, rfl, e3, dqt _ _, oddt.sc, oddt.sh, oddt.len, fun t1 nt1 => ?_⟩⟩⟩⟩
    have s5 := Same.new (o := .tup [.str "number", .str "moves", .str dt.shown]) nt1
    refine ⟨_, rfl, y, dt, rfl, dqt _ _, oddt.sc, oddt.sh, oddt.len, (by show 3 ≤ sizeLine; decide), fun t2 nt2 => ?_⟩
    have s6 := Same.new (o := .tup [.str "number", .str "moves", .str dt.shown]) nt2
    refine ⟨_, _, .tup (SqT.of (s6 _ _ upd_same)) (.cons (.str _) (.cons (.str _) (.cons (.str _) .nil))), .tup (SqT.of upd_same) (.cons (.str _) (.cons (.str _) (.cons (.str _) .nil))), shaped_three okS_number okS_moves oddt.ok, shaped_three okS_number okS_moves oddt.ok, _, rfl, iteF' (by rw [eqv_three]; rfl) ?_⟩
    have sE := ((s2.trans s3).trans s5).trans s6
    have kyE := (Ky.of_ext eN).trans (.of_same sE)
    have lwE := lwA.ky kyE
    have ldE := ldA.ky kyE
    have luE := luA.ky kyE
    have etfE := kyE.tup etfA
    have TE_ := tabs_kp T1 (.of_same sE)
    have PE_ := (PA.ext eN).same sE
    have emtE := kyE.tup emtA
    generalize upd (upd H3 t1 (.tup [.str "number", .str "moves", .str dt.shown])) t2 (.tup [.str "number", .str "moves", .str dt.shown]) = HE at lwE ldE luE etfE TE_ PE_ emtE ⊢
    clear lwA ldA luA etfA TA PA emtA lwB eN T1 s2 s3 e3 s5 s6 sE kyE nt1 nt2 dqt oddt farF
    -- a number that is none, of the stands
    refine ⟨_, rfl, _, rfl, _, rfl, du, vs, _, _, rfl, rfl, SqL.of luE.e, atI_nat hw, mt, mvs, rfl, .inr (SqT.of emtE), 1, rfl, (by show 6 ≤ sizeLine; decide), fun lp nlp => ?_⟩
    have sP := Same.new (o := .lst [V.int ((mvs.length : Nat) : Int), .int (-1), .non, .bl true, .bl false, .str "0"]) nlp
    refine ⟨p, c0, lp, _, B + 136, rfl, PE_.same sP, .inl (SqL.of upd_same), by simp, by show 6 ≤ 1000000; decide, fun y2 iy HA hiy PA BA => ?_⟩
    obtain ⟨dt, dqt, oddt, numF⟩ := odd_num (m := mvs.length) (by omega) hiy
    rw [lmv, ← hcl_] at numF
    obtain ⟨kvp, hkp⟩ := (PE_.same sP).there
    have kpA : Kp HE HA := (Kp.of_same sP).trans (.of_but BA hkp)
    have lwA := lwE.ky (.of_kp kpA)
    have etfA := (Ky.of_kp kpA).tup etfE
    have TA := tabs_kp TE_ kpA
    clear lwE ldE luE etfE TE_ PE_ emtE sP nlp BA hkp kpA hiy
    refine gset_go (σ' := sg a p v2 (some (.ref q)) (some (.ref q')) (some (.ref x2)) (some (.ref g)) (some (.ref cc)) (some (.int ((d : Nat) : Int))) (some (.ref du)) v10 v11 v12 (some (.int ((kk : Nat) : Int))) (some (.int ((dd : Nat) : Int))) (some (.int ((mm : Nat) : Int))) v16 (some (.ref x)) (some (.ref s0)) (some (.int (many : Nat))) (some y2) (some (.ref tf))) rfl ?_
    dsimp only
    have numF : numB dt (Clr (stepsV ts' rs') st (natD (.int ((kk : Nat) : Int)))).length = false := by
      show numB dt (Clr (stepsV ts' rs') st ((kk : Nat) : Int).toNat).length = false
      rw [Int.toNat_natCast]
      exact numF
    refine ⟨TA, fun H1 eN T1 H2_ s2 R => ?_⟩
    have lwB := (lwA.ky (.of_ext eN)).ky (.of_same s2)
    refine ⟨_, rfl, _, rfl, _, rfl, _, rfl, _, rfl, x, s0, _, y2, .int ((kk : Nat) : Int), dt, n, d, ts, ts', rs, rs', st, _, rfl, lwB.yo, ok, n5, .inr lwB.hs, lst, p0, .int _, dqt _ _, trn, dep, .inl ⟨by rw [hmany]; exact Int.le_refl _, .inr (.inl ⟨farT, numF, fun ee H3 s3 e3 => .inr ⟨rfl, ee, _, _, dt, rfl, e3, dqt _ _, oddt.sc, oddt.sh, oddt.len, fun t1 nt1 => ?_⟩⟩)⟩⟩
    have s5 := Same.new (o := .tup [.str "number", .str "number", .str dt.shown]) nt1
    refine ⟨_, rfl, y2, dt, rfl, dqt _ _, oddt.sc, oddt.sh, oddt.len, (by show 3 ≤ sizeLine; decide), fun t2 nt2 => ?_⟩
    have s6 := Same.new (o := .tup [.str "number", .str "number", .str dt.shown]) nt2
    refine ⟨_, _, .tup (SqT.of (s6 _ _ upd_same)) (.cons (.str _) (.cons (.str _) (.cons (.str _) .nil))), .tup (SqT.of upd_same) (.cons (.str _) (.cons (.str _) (.cons (.str _) .nil))), shaped_three okS_number okS_number oddt.ok, shaped_three okS_number okS_number oddt.ok, _, rfl, iteF' (by rw [eqv_three]; rfl) ?_⟩
    have sE := ((s2.trans s3).trans s5).trans s6
    have kyE := (Ky.of_ext eN).trans (.of_same sE)
    have lwE := lwA.ky kyE
    have etfE := kyE.tup etfA
    have TE_ := tabs_kp T1 (.of_same sE)
    have PE_ := (PA.ext eN).same sE
    generalize upd (upd H3 t1 (.tup [.str "number", .str "number", .str dt.shown])) t2 (.tup [.str "number", .str "number", .str dt.shown]) = HE at lwE etfE TE_ PE_ ⊢
    clear lwA etfA TA PA lwB eN T1 s2 s3 e3 s5 s6 sE kyE nt1 nt2 dqt oddt numF farT numT
    -- too few for all
    have mpos := Sn_grow d dep.ne
    rw [hmany] at mpos
    have mlog : (((many : Nat) : Int) - 1).natAbs.log2 < 1920 := small_log (by omega) (by omega)
    have mok := ok_int (z := ((many : Nat) : Int) - 1) (by omega) (by omega)
    have mlt : ((many : Nat) : Int) - 1 < ((Sn (stepsV ts' rs') st d).length : Int) := by omega
    generalize hms : (Str.ofString (toString (((many : Nat) : Int) - 1))) = ms at mok
    refine ⟨TE_, fun H1 eN T1 H2_ s2 R => ?_⟩
    have lwB := (lwE.ky (.of_ext eN)).ky (.of_same s2)
    refine ⟨_, rfl, _, rfl, _, rfl, _, _, rfl, rfl, x, s0, n, d, ts, ts', rs, rs', st, _, rfl, lwB.yo, ok, n5, .inr lwB.hs, lst, p0, trn, dep, .inr ⟨mlt, fun ee H3 s3 e3 => .inl ⟨rfl, ee, _, rfl, e3, mlog, fun t1 nt1 => ⟨(by show 1 ≤ sizeLine; decide), fun lf nlf => ?_⟩⟩⟩⟩
    rw [hms] at nlf ⊢
    have s5 := Same.new (o := .tup [.str "many", .str ms]) nt1
    have s6 := Same.new (o := .lst [V.ref t1]) nlf
    have fn1 : Fnd ms (upd (upd H3 t1 (.tup [.str "many", .str ms])) lf (.lst [V.ref t1])) lf 1 := ⟨[V.ref t1], upd_same, rfl, fun v hv => by rw [List.mem_singleton.mp hv]; exact ⟨t1, rfl, s6 _ _ upd_same⟩⟩
    have sN := ((s2.trans s3).trans s5).trans s6
    have kyF := (Ky.of_ext eN).trans (.of_same sN)
    have lwF := lwE.ky kyF
    have etfF := kyF.tup etfE
    have TF := tabs_kp T1 (.of_same sN)
    have PF := (PE_.ext eN).same sN
    have offl := ((PE_.ext eN).same ((s2.trans s3).trans s5)).off nlf
    generalize upd (upd H3 t1 (.tup [.str "many", .str ms])) lf (.lst [V.ref t1]) = HF at fn1 lwF etfF TF PF ⊢
    clear lwE etfE TE_ PE_ lwB eN T1 s2 s3 e3 s5 s6 sN kyF nt1 nlf
    refine gset_go (σ' := sg a p v2 (some (.ref q)) (some (.ref q')) (some (.ref x2)) (some (.ref g)) (some (.ref cc)) (some (.int ((d : Nat) : Int))) (some (.ref du)) v10 v11 v12 (some (.int ((kk : Nat) : Int))) (some (.int ((dd : Nat) : Int))) (some (.int ((mm : Nat) : Int))) (some (.ref lf)) (some (.ref x)) (some (.ref s0)) (some (.int (many : Nat))) (some y2) (some (.ref tf))) rfl ?_
    dsimp only
    obtain ⟨fs1, ef1, _, _⟩ := id fn1
    refine ⟨_, rfl, .inl ⟨rfl, _, SqL.of ef1⟩, TF, fun H1 eN T1 H2_ s2 R => ?_⟩
    have lwB := (lwF.ky (.of_ext eN)).ky (.of_same s2)
    refine ⟨_, rfl, _, rfl, _, rfl, _, _, rfl, rfl, x, s0, n, d, dd, ts, ts', rs, rs', st, _, rfl, lwB.yo, ok, n5, .inr lwB.hs, lst, p0, trn, dep, deep, .inr ⟨mlt, fun ee H3 s3 e3 => .inl ⟨rfl, ee, _, rfl, e3, mlog, fun t1 nt1 => ?_⟩⟩⟩
    rw [hms]
    have s5 := Same.new (o := .tup [.str "many", .str ms]) nt1
    have sN := (s2.trans s3).trans s5
    have kyN := (Ky.of_ext eN).trans (.of_same sN)
    have ef1' := kyN.lst ef1
    obtain ⟨lf1, fn2⟩ := (fn1.ky kyN).app ef1' upd_same
    refine ⟨lf, _, _, rfl, rfl, ef1', by rw [lf1]; decide, ?_⟩
    have lwG := (lwF.ky kyN).off (SqN.upd (o := .lst (fs1 ++ [V.ref t1])) ef1')
    have etfG := SqN.upd (o := .lst (fs1 ++ [V.ref t1])) ef1' _ _ (kyN.tup etfF) (fun _ z => by cases z)
    have TG_ := tabs_upd (o := .lst (fs1 ++ [V.ref t1])) (tabs_kp T1 (.of_same sN)) ef1'
    have PG := ((PF.ext eN).same sN).upd (o := .lst (fs1 ++ [V.ref t1])) offl.1 offl.2
    generalize upd (upd H3 t1 (.tup [.str "many", .str ms])) lf (.lst (fs1 ++ [V.ref t1])) = HG at fn2 lwG etfG TG_ PG ⊢
    clear lwF etfF TF PF lwB eN T1 s2 s3 e3 s5 sN kyN nt1 ef1 ef1' lf1 fn1
    obtain ⟨fs2, ef2, _, _⟩ := id fn2
    refine ⟨_, rfl, .inl ⟨rfl, _, SqL.of ef2⟩, TG_, fun H1 eN T1 H2_ s2 R => ?_⟩
    have lwB := (lwG.ky (.of_ext eN)).ky (.of_same s2)
    have etfB := (Ky.of_same s2).tup ((Ky.of_ext eN).tup etfG)
    refine ⟨_, rfl, _, rfl, _, rfl, _, _, rfl, rfl, x, s0, .non, .non, .none, .none, n, d, ts, ts', rs, rs', st, _, rfl, lwB.yo, ok, n5, .inr lwB.hs, lst, p0, .non, .non, trn, dep, .inr ⟨mlt, fun ee H3 s3 e3 => .inl ⟨rfl, ee, _, rfl, e3, mlog, fun t1 nt1 => ?_⟩⟩⟩
    rw [hms]
    have s5 := Same.new (o := .tup [.str "many", .str ms]) nt1
    have sN := (s2.trans s3).trans s5
    have kyN := (Ky.of_ext eN).trans (.of_same sN)
    have ef2' := kyN.lst ef2
    obtain ⟨lf1, fn3⟩ := (fn2.ky kyN).app ef2' upd_same
    refine ⟨lf, _, _, rfl, rfl, ef2', by rw [lf1]; decide, ?_⟩
    have lwM := (lwG.ky kyN).off (SqN.upd (o := .lst (fs2 ++ [V.ref t1])) ef2')
    have etfM := SqN.upd (o := .lst (fs2 ++ [V.ref t1])) ef2' _ _ (kyN.tup etfG) (fun _ z => by cases z)
    have TM_ := tabs_upd (o := .lst (fs2 ++ [V.ref t1])) (tabs_kp T1 (.of_same sN)) ef2'
    have PM_ := ((PG.ext eN).same sN).upd (o := .lst (fs2 ++ [V.ref t1])) offl.1 offl.2
    generalize upd (upd H3 t1 (.tup [.str "many", .str ms])) lf (.lst (fs2 ++ [V.ref t1])) = HM at fn3 lwM etfM TM_ PM_ ⊢
    clear lwG etfG TG_ PG lwB etfB eN T1 s2 s3 e3 s5 sN kyN nt1 ef2 ef2' lf1 fn2
    obtain ⟨fs3, ef3, _, _⟩ := id fn3
    refine ⟨_, rfl, .inl ⟨rfl, _, SqL.of ef3⟩, TM_, fun H1 eN T1 H2_ s2 R => ?_⟩
    have lwB := (lwM.ky (.of_ext eN)).ky (.of_same s2)
    have etfB := (Ky.of_same s2).tup ((Ky.of_ext eN).tup etfM)
    refine ⟨_, rfl, _, rfl, _, rfl, _, rfl, _, _, rfl, rfl, x, s0, tf, n, d, ts, ts', rs, rs', st, st', _, rfl, lwB.yo, ok, n5, .inr lwB.hs, .inr etfB, lst, p0, trn, dep, .inr ⟨mlt, fun ee H3 s3 e3 => .inl ⟨rfl, ee, _, rfl, e3, mlog, fun t1 nt1 => ?_⟩⟩⟩
    rw [hms]
    have s5 := Same.new (o := .tup [.str "many", .str ms]) nt1
    have sN := (s2.trans s3).trans s5
    have kyN := (Ky.of_ext eN).trans (.of_same sN)
    have ef3' := kyN.lst ef3
    obtain ⟨lf1, fn4⟩ := (fn3.ky kyN).app ef3' upd_same
    refine ⟨lf, _, _, rfl, rfl, ef3', by rw [lf1]; decide, ?_⟩
    have lwN := (lwM.ky kyN).off (SqN.upd (o := .lst (fs3 ++ [V.ref t1])) ef3')
    have etfN := SqN.upd (o := .lst (fs3 ++ [V.ref t1])) ef3' _ _ (kyN.tup etfM) (fun _ z => by cases z)
    have TN_ := tabs_upd (o := .lst (fs3 ++ [V.ref t1])) (tabs_kp T1 (.of_same sN)) ef3'
    have PN_ := ((PM_.ext eN).same sN).upd (o := .lst (fs3 ++ [V.ref t1])) offl.1 offl.2
    generalize upd (upd H3 t1 (.tup [.str "many", .str ms])) lf (.lst (fs3 ++ [V.ref t1])) = HN at fn4 lwN etfN TN_ PN_ ⊢
    clear lwM etfM TM_ PM_ lwB etfB eN T1 s2 s3 e3 s5 sN kyN nt1 ef3 ef3' lf1 fn3
    refine ⟨_, rfl, _, rfl, _, _, rfl, rfl, _, rfl, mlog, (by show 2 ≤ sizeLine; decide), fun t3 nt3 => ⟨(by show 1 ≤ sizeLine; decide), fun l3 nl3 => ⟨l3, 4, _, rfl, rfl, upd_same, by decide, by decide, by show 1 * 4 ≤ sizeLine; decide, fun l4 nl4 => ?_⟩⟩⟩
    rw [hms] at nl3 nl4 ⊢
    have s1 := Same.new (o := .tup [.str "many", .str ms]) nt3
    have s2 := Same.new (o := .lst [V.ref t3]) nl3
    have s3 := Same.new (o := .lst (List.replicate (4 : Int).toNat [V.ref t3]).flatten) nl4
    have sN := (s1.trans s2).trans s3
    have et3 := s3 _ _ (s2 _ _ (upd_same (H := HN) (a := t3) (o := .tup [.str "many", .str ms])))
    have fn5 : Fnd ms _ l4 4 := ⟨[V.ref t3, V.ref t3, V.ref t3, V.ref t3], upd_same, rfl, fun v hv => ⟨t3, by simpa using hv, et3⟩⟩
    refine ⟨_, _, (fn4.ky (.of_same sN)).dp, fn5.dp, shaped_rep ok_many mok, shaped_rep ok_many mok, _, rfl, iteF' (by rw [eqv_rep]; rfl) ?_⟩
    exact ⟨_, _, _, _, _, _, _, _, _, _, _, _, _, _, _, _, _, _, _, _, rfl, tabs_kp TN_ (.of_same sN), iD ▸ ((PN_.same sN).less (by omega))⟩
end
end Y
set_option Elab.async false
set_option linter.all false
set_option maxRecDepth 100000
set_option maxHeartbeats 4000000
namespace Y
open PySem PySem.Spec PyProof.Rows L2 LamX
theorem kit_own {K : PySem.W.Frag} {C : Addr} : PySem.W.kitOne K (.ref C) (.ref C) = some true := by
  unfold PySem.W.kitOne
  rw [if_pos (beq_self_eq_true _)]
theorem kit_noL {K : PySem.W.Frag} {C : Addr} (h : PySem.W.subIn K (.ref C) (.type "list") = some false) : PySem.W.kitOne K (.ref C) (.type "list") = some false := by
  unfold PySem.W.kitOne
  rw [if_neg (fun e => by have := eq_of_beq e; cases this)]
  show (if PySem.W.kitMeta "list" = true then PySem.W.subIn K (.ref C) (.type "list") else none) = some false
  rw [if_pos (by decide +kernel)]
  exact h
theorem kit_no {K : PySem.W.Frag} {t : Value} {D : Addr} (ne : t ≠ .ref D) (h1 : PySem.W.isClsIn K D = true) (h2 : PySem.W.typeIn K (.ref D) = some (.type "type")) (h3 : PySem.W.subIn K t (.ref D) = some false) : PySem.W.kitOne K t (.ref D) = some false := by
  unfold PySem.W.kitOne
  rw [if_neg (fun e => ne (eq_of_beq e))]
  have e2 : ((PySem.W.clsIn K D).isSome && PySem.W.typeIn K (.ref D) == some (.type "type")) = true := by
    have h1' : (PySem.W.clsIn K D).isSome = true := h1
    rw [h1', h2] <;> rfl
  show (if ((PySem.W.clsIn K D).isSome && PySem.W.typeIn K (.ref D) == some (.type "type")) = true then PySem.W.subIn K t (.ref D) else none) = some false
  rw [if_pos e2]
  exact h3
theorem exm_of {K : PySem.W.Frag} {C S : Addr} {b : Bool} (h1 : PySem.W.subIn K (.ref S) (.type "BaseException") = some true) (h2 : PySem.W.isClsIn K S = true) (h3 : PySem.W.typeIn K (.ref S) = some (.type "type")) (h4 : PySem.W.subIn K (.ref C) (.ref S) = some b) :
    PySem.W.exmOne K (.ref C) (.ref S) = some b := by
  have e1 : (PySem.W.subIn K (.ref S) (.type "BaseException") == some true) = true := by rw [h1] <;> rfl
  have e2 : ((PySem.W.clsIn K S).isSome && PySem.W.typeIn K (.ref S) == some (.type "type")) = true := by
    have h2' : (PySem.W.clsIn K S).isSome = true := h2
    rw [h2', h3] <;> rfl
  show (if (PySem.W.subIn K (.ref S) (.type "BaseException") == some true) = true then (if ((PySem.W.clsIn K S).isSome && PySem.W.typeIn K (.ref S) == some (.type "type")) = true then PySem.W.subIn K (.ref C) (.ref S) else none) else none) = some b
  rw [if_pos e1, if_pos e2]
  exact h4
theorem all_mk {l : PySem.W.OpenLaw} {w : World} {K : PySem.W.Frag} {h : Heap} {mg : Str → Option Value} {fa C0 CU CM CN CY cL PL fS ftS f0 f1 f2 f3 f4 f5 f6 f7 f8 f9 f10 f11 f12 f13 f14 f15 f16 f17 f18 f19 f20 f21 f22 f23 f24 f25 f26 f27 f28 f29 f30 f31 f32 f33 f34 f35 f36 f37 f38 f39 f40 f41 f42 f43 f44 : Addr} (X : K.In h) (G : h.Ns mainGlobals mg) (hfa : mg "law" = some (.ref fa))
    {nmU qU : Str} {NU : Addr} {bsU : List Value} {snU : List Str} {subU : List Value} {abU : Bool} {colU : Option Bool} {ddU : Option Addr} {m0U m1U m2U m3U m5U : Option Value}
    {nmM qM : Str} {NM : Addr} {bsM : List Value} {snM : List Str} {subM : List Value} {abM : Bool} {colM : Option Bool} {ddM : Option Addr} {m0M m1M m2M m3M m5M : Option Value}
    {nmN qN : Str} {NN : Addr} {bsN : List Value} {snN : List Str} {subN : List Value} {abN : Bool} {colN : Option Bool} {ddN : Option Addr} {m0N m1N m2N m3N m5N : Option Value}
    {eL : Value} {ddQL : Option Addr} {vsL : Array Value} {slL : Array (Option Value)}
    {ntS : Nat} {ocS kVS dcS pmS cdS ctS octS : Value} {odS anS odtS : Option Addr} {slS sltS : Array (Option Value)}
    {od0 an0 od1 an1 od2 an2 od3 an3 od4 an4 od5 an5 od6 an6 od7 an7 od8 an8 od9 an9 od10 an10 od11 an11 od12 an12 od13 an13 od14 an14 od15 an15 od16 an16 od17 an17 od18 an18 od19 an19 od20 an20 od21 an21 od22 an22 od23 an23 od24 an24 od25 an25 od26 an26 od27 an27 od28 an28 od29 an29 od30 an30 od31 an31 od32 an32 od33 an33 od34 an34 od35 an35 od36 an36 od37 an37 od38 an38 od39 an39 od40 an40 od41 an41 od42 an42 od43 an43 od44 an44 : Option Addr} {sl0 sl1 sl2 sl3 sl4 sl5 sl6 sl7 sl8 sl9 sl10 sl11 sl12 sl13 sl14 sl15 sl16 sl17 sl18 sl19 sl20 sl21 sl22 sl23 sl24 sl25 sl26 sl27 sl28 sl29 sl30 sl31 sl32 sl33 sl34 sl35 sl36 sl37 sl38 sl39 sl40 sl41 sl42 sl43 sl44 : Array (Option Value)} {oc0 kV0 dc0 pm0 cd0 ct0 oc1 kV1 dc1 pm1 cd1 ct1 oc2 kV2 dc2 pm2 cd2 ct2 oc3 kV3 dc3 pm3 cd3 ct3 oc4 kV4 dc4 pm4 cd4 ct4 oc5 kV5 dc5 pm5 cd5 ct5 oc6 kV6 dc6 pm6 cd6 ct6 oc7 kV7 dc7 pm7 cd7 ct7 oc8 kV8 dc8 pm8 cd8 ct8 oc9 kV9 dc9 pm9 cd9 ct9 oc10 kV10 dc10 pm10 cd10 ct10 oc11 kV11 dc11 pm11 cd11 ct11 oc12 kV12 dc12 pm12 cd12 ct12 oc13 kV13 dc13 pm13 cd13 ct13 oc14 kV14 dc14 pm14 cd14 ct14 oc15 kV15 dc15 pm15 cd15 ct15 oc16 kV16 dc16 pm16 cd16 ct16 oc17 kV17 dc17 pm17 cd17 ct17 oc18 kV18 dc18 pm18 cd18 ct18 oc19 kV19 dc19 pm19 cd19 ct19 oc20 kV20 dc20 pm20 cd20 ct20 oc21 kV21 dc21 pm21 cd21 ct21 oc22 kV22 dc22 pm22 cd22 ct22 oc23 kV23 dc23 pm23 cd23 ct23 oc24 kV24 dc24 pm24 cd24 ct24 oc25 kV25 dc25 pm25 cd25 ct25 oc26 kV26 dc26 pm26 cd26 ct26 oc27 kV27 dc27 pm27 cd27 ct27 oc28 kV28 dc28 pm28 cd28 ct28 oc29 kV29 dc29 pm29 cd29 ct29 oc30 kV30 dc30 pm30 cd30 ct30 oc31 kV31 dc31 pm31 cd31 ct31 oc32 kV32 dc32 pm32 cd32 ct32 oc33 kV33 dc33 pm33 cd33 ct33 oc34 kV34 dc34 pm34 cd34 ct34 oc35 kV35 dc35 pm35 cd35 ct35 oc36 kV36 dc36 pm36 cd36 ct36 oc37 kV37 dc37 pm37 cd37 ct37 oc38 kV38 dc38 pm38 cd38 ct38 oc39 kV39 dc39 pm39 cd39 ct39 oc40 kV40 dc40 pm40 cd40 ct40 oc41 kV41 dc41 pm41 cd41 ct41 oc42 kV42 dc42 pm42 cd42 ct42 oc43 kV43 dc43 pm43 cd43 ct43 oc44 kV44 dc44 pm44  ct44 : Value}
    (aC0 : PySem.W.nsIn K mainGlobals "Yard" = some (some (.ref C0)))
    (pg0 : PySem.W.plainGet K C0 Str.empty = true)
    (hd0 : PySem.W.hasDictIn K C0 = true)
    (po0 : PySem.W.plainOver K C0 = true)
    (sa0 : PySem.W.findIn K (.ref C0) "__setattr__" = some (some (.builtin "object.__setattr__")))
    (mk0 : PySem.W.makesIn K C0 = true)
    (kc0 : PySem.W.keepIn K (.ref C0) = true)
    (n0_0 : PySem.W.findIn K (.ref C0) "places" = some none)
    (n0_1 : PySem.W.findIn K (.ref C0) "ties" = some none)
    (n0_2 : PySem.W.findIn K (.ref C0) "rings" = some none)
    (yc0 : PySem.W.findIn K (.ref C0) "__class__" = some (some (.builtin "object.__class__")))
    (ym0 : PySem.W.mroIn K C0 (.type "object") = some true)
    (yi0 : PySem.W.isClsIn K C0 = true)
    (yy0 : PySem.W.typeIn K (.ref C0) = some (.type "type"))
    (ye3 : PySem.W.specialIn K (.builtin "object.__class__") "__get__" = some (some (.builtin "getset_descriptor.__get__")))
    (ye4 : PySem.W.takesIn K (.builtin "object.__class__") = some true)
    (aEU : PySem.W.nsIn K mainGlobals "Unlike" = some (some (.ref CU)))
    (gaU : PySem.W.findIn K (.ref CU) "__getattribute__" = some (some (.builtin "BaseException.__getattribute__")))
    (ggU : PySem.W.findIn K (.ref CU) "__getattr__" = some none)
    (eCU : PySem.W.subIn K (.ref CU) (.type "BaseException") = some true)
    (hCU : PySem.W.hasDictIn K CU = true)
    (nEU0 : PySem.W.findIn K (.ref CU) "what" = some none)
    (tCU : PySem.W.typeIn K (.ref CU) = some (.type "type"))
    (iCU : PySem.W.isClsIn K CU = true)
    (xLU : K.lookup CU = some (excClassObj nmU qU CU NU bsU [.ref CY, .type "ValueError", .type "Exception", .type "BaseException", .type "object"] true snU subU abU colU ddU m0U m1U m2U m3U m5U "ValueError.__new__"))
    (saU : PySem.W.findIn K (.ref CU) "__setattr__" = some (some (.builtin "object.__setattr__")))
    (kCU : PySem.W.keepIn K (.ref CU) = true)
    (aEM : PySem.W.nsIn K mainGlobals "TooMany" = some (some (.ref CM)))
    (gaM : PySem.W.findIn K (.ref CM) "__getattribute__" = some (some (.builtin "BaseException.__getattribute__")))
    (ggM : PySem.W.findIn K (.ref CM) "__getattr__" = some none)
    (eCM : PySem.W.subIn K (.ref CM) (.type "BaseException") = some true)
    (hCM : PySem.W.hasDictIn K CM = true)
    (nEM0 : PySem.W.findIn K (.ref CM) "most" = some none)
    (tCM : PySem.W.typeIn K (.ref CM) = some (.type "type"))
    (iCM : PySem.W.isClsIn K CM = true)
    (xLM : K.lookup CM = some (excClassObj nmM qM CM NM bsM [.ref CY, .type "ValueError", .type "Exception", .type "BaseException", .type "object"] true snM subM abM colM ddM m0M m1M m2M m3M m5M "ValueError.__new__"))
    (saM : PySem.W.findIn K (.ref CM) "__setattr__" = some (some (.builtin "object.__setattr__")))
    (kCM : PySem.W.keepIn K (.ref CM) = true)
    (aEN : PySem.W.nsIn K mainGlobals "BadNumber" = some (some (.ref CN)))
    (gaN : PySem.W.findIn K (.ref CN) "__getattribute__" = some (some (.builtin "BaseException.__getattribute__")))
    (ggN : PySem.W.findIn K (.ref CN) "__getattr__" = some none)
    (eCN : PySem.W.subIn K (.ref CN) (.type "BaseException") = some true)
    (hCN : PySem.W.hasDictIn K CN = true)
    (nEN0 : PySem.W.findIn K (.ref CN) "what" = some none)
    (nEN1 : PySem.W.findIn K (.ref CN) "number" = some none)
    (tCN : PySem.W.typeIn K (.ref CN) = some (.type "type"))
    (iCN : PySem.W.isClsIn K CN = true)
    (xLN : K.lookup CN = some (excClassObj nmN qN CN NN bsN [.ref CY, .type "ValueError", .type "Exception", .type "BaseException", .type "object"] true snN subN abN colN ddN m0N m1N m2N m3N m5N "ValueError.__new__"))
    (saN : PySem.W.findIn K (.ref CN) "__setattr__" = some (some (.builtin "object.__setattr__")))
    (kCN : PySem.W.keepIn K (.ref CN) = true)
    (sUU : PySem.W.subIn K (.ref CU) (.ref CU) = some true)
    (sMU : PySem.W.subIn K (.ref CM) (.ref CU) = some false)
    (sMM : PySem.W.subIn K (.ref CM) (.ref CM) = some true)
    (sNU : PySem.W.subIn K (.ref CN) (.ref CU) = some false)
    (sNM : PySem.W.subIn K (.ref CN) (.ref CM) = some false)
    (sNN : PySem.W.subIn K (.ref CN) (.ref CN) = some true)
    (a0 : PySem.W.findIn K (.ref C0) "__init__" = some (some (.ref f0)))
    (i0 : PySem.W.isFn K (.ref f0) = true)
    (l0 : K.lookup f0 = some ⟨oc0, od0, .func (PySem.W.fnOf "__init__" "Yard.__init__" (defArgs sYInit) (defBody sYInit) (defScope sYInit) .none kV0 dc0 pm0 an0 cd0 ct0), sl0⟩)
    (c0 : PySem.W.codeIn K cd0 "Yard.__init__" = true)
    (k0 : PySem.W.keepIn K (.ref f0) = true)
    (a1 : PySem.W.findIn K (.ref C0) "__eq__" = some (some (.ref f1)))
    (i1 : PySem.W.isFn K (.ref f1) = true)
    (l1 : K.lookup f1 = some ⟨oc1, od1, .func (PySem.W.fnOf "__eq__" "Yard.__eq__" (defArgs sEq) (defBody sEq) (defScope sEq) .none kV1 dc1 pm1 an1 cd1 ct1), sl1⟩)
    (c1 : PySem.W.codeIn K cd1 "Yard.__eq__" = true)
    (k1 : PySem.W.keepIn K (.ref f1) = true)
    (a2 : PySem.W.findIn K (.ref CM) "__init__" = some (some (.ref f2)))
    (t2 : PySem.W.typeIn K (.ref f2) = some (.type "function"))
    (l2 : K.lookup f2 = some ⟨oc2, od2, .func (PySem.W.fnOf "__init__" "TooMany.__init__" (defArgs sManyI) (defBody sManyI) (defScope sManyI) .none kV2 dc2 pm2 an2 cd2 ct2), sl2⟩)
    (c2 : PySem.W.codeIn K cd2 "TooMany.__init__" = true)
    (k2 : PySem.W.keepIn K (.ref f2) = true)
    (a3 : PySem.W.findIn K (.ref CN) "__init__" = some (some (.ref f3)))
    (t3 : PySem.W.typeIn K (.ref f3) = some (.type "function"))
    (l3 : K.lookup f3 = some ⟨oc3, od3, .func (PySem.W.fnOf "__init__" "BadNumber.__init__" (defArgs sNumI) (defBody sNumI) (defScope sNumI) .none kV3 dc3 pm3 an3 cd3 ct3), sl3⟩)
    (c3 : PySem.W.codeIn K cd3 "BadNumber.__init__" = true)
    (k3 : PySem.W.keepIn K (.ref f3) = true)
    (a4 : PySem.W.nsIn K mainGlobals "is_integer" = some (some (.ref f4)))
    (l4 : K.lookup f4 = some ⟨oc4, od4, .func (PySem.W.fnOf "is_integer" "is_integer" (defArgs sIsInt) (defBody sIsInt) (defScope sIsInt) .none kV4 dc4 pm4 an4 cd4 ct4), sl4⟩)
    (c4 : PySem.W.codeIn K cd4 "is_integer" = true)
    (k4 : PySem.W.keepIn K (.ref f4) = true)
    (a5 : PySem.W.nsIn K mainGlobals "is_count" = some (some (.ref f5)))
    (l5 : K.lookup f5 = some ⟨oc5, od5, .func (PySem.W.fnOf "is_count" "is_count" (defArgs sIsCount) (defBody sIsCount) (defScope sIsCount) .none kV5 dc5 pm5 an5 cd5 ct5), sl5⟩)
    (c5 : PySem.W.codeIn K cd5 "is_count" = true)
    (k5 : PySem.W.keepIn K (.ref f5) = true)
    (a6 : PySem.W.nsIn K mainGlobals "is_row" = some (some (.ref f6)))
    (l6 : K.lookup f6 = some ⟨oc6, od6, .func (PySem.W.fnOf "is_row" "is_row" (defArgs sIsRow) (defBody sIsRow) (defScope sIsRow) .none kV6 dc6 pm6 an6 cd6 ct6), sl6⟩)
    (c6 : PySem.W.codeIn K cd6 "is_row" = true)
    (k6 : PySem.W.keepIn K (.ref f6) = true)
    (a7 : PySem.W.nsIn K mainGlobals "are_unlike_numbers" = some (some (.ref f7)))
    (l7 : K.lookup f7 = some ⟨oc7, od7, .func (PySem.W.fnOf "are_unlike_numbers" "are_unlike_numbers" (defArgs sUnlike) (defBody sUnlike) (defScope sUnlike) .none kV7 dc7 pm7 an7 cd7 ct7), sl7⟩)
    (c7 : PySem.W.codeIn K cd7 "are_unlike_numbers" = true)
    (k7 : PySem.W.keepIn K (.ref f7) = true)
    (a8 : PySem.W.nsIn K mainGlobals "checked_ties" = some (some (.ref f8)))
    (l8 : K.lookup f8 = some ⟨oc8, od8, .func (PySem.W.fnOf "checked_ties" "checked_ties" (defArgs sCTies) (defBody sCTies) (defScope sCTies) .none kV8 dc8 pm8 an8 cd8 ct8), sl8⟩)
    (c8 : PySem.W.codeIn K cd8 "checked_ties" = true)
    (k8 : PySem.W.keepIn K (.ref f8) = true)
    (a9 : PySem.W.nsIn K mainGlobals "checked_rings" = some (some (.ref f9)))
    (l9 : K.lookup f9 = some ⟨oc9, od9, .func (PySem.W.fnOf "checked_rings" "checked_rings" (defArgs sCRings) (defBody sCRings) (defScope sCRings) .none kV9 dc9 pm9 an9 cd9 ct9), sl9⟩)
    (c9 : PySem.W.codeIn K cd9 "checked_rings" = true)
    (k9 : PySem.W.keepIn K (.ref f9) = true)
    (a10 : PySem.W.nsIn K mainGlobals "filled" = some (some (.ref f10)))
    (l10 : K.lookup f10 = some ⟨oc10, od10, .func (PySem.W.fnOf "filled" "filled" (defArgs sFilled) (defBody sFilled) (defScope sFilled) .none kV10 dc10 pm10 an10 cd10 ct10), sl10⟩)
    (c10 : PySem.W.codeIn K cd10 "filled" = true)
    (k10 : PySem.W.keepIn K (.ref f10) = true)
    (a11 : PySem.W.nsIn K mainGlobals "is_filled_row" = some (some (.ref f11)))
    (l11 : K.lookup f11 = some ⟨oc11, od11, .func (PySem.W.fnOf "is_filled_row" "is_filled_row" (defArgs sIsFilled) (defBody sIsFilled) (defScope sIsFilled) .none kV11 dc11 pm11 an11 cd11 ct11), sl11⟩)
    (c11 : PySem.W.codeIn K cd11 "is_filled_row" = true)
    (k11 : PySem.W.keepIn K (.ref f11) = true)
    (a12 : PySem.W.nsIn K mainGlobals "moves_at" = some (some (.ref f12)))
    (l12 : K.lookup f12 = some ⟨oc12, od12, .func (PySem.W.fnOf "moves_at" "moves_at" (defArgs sMovesAt) (defBody sMovesAt) (defScope sMovesAt) .none kV12 dc12 pm12 an12 cd12 ct12), sl12⟩)
    (c12 : PySem.W.codeIn K cd12 "moves_at" = true)
    (k12 : PySem.W.keepIn K (.ref f12) = true)
    (a13 : PySem.W.nsIn K mainGlobals "behind_move" = some (some (.ref f13)))
    (l13 : K.lookup f13 = some ⟨oc13, od13, .func (PySem.W.fnOf "behind_move" "behind_move" (defArgs sBehind) (defBody sBehind) (defScope sBehind) .none kV13 dc13 pm13 an13 cd13 ct13), sl13⟩)
    (c13 : PySem.W.codeIn K cd13 "behind_move" = true)
    (k13 : PySem.W.keepIn K (.ref f13) = true)
    (a14 : PySem.W.nsIn K mainGlobals "steps_from" = some (some (.ref f14)))
    (l14 : K.lookup f14 = some ⟨oc14, od14, .func (PySem.W.fnOf "steps_from" "steps_from" (defArgs sStepsF) (defBody sStepsF) (defScope sStepsF) .none kV14 dc14 pm14 an14 cd14 ct14), sl14⟩)
    (c14 : PySem.W.codeIn K cd14 "steps_from" = true)
    (k14 : PySem.W.keepIn K (.ref f14) = true)
    (a15 : PySem.W.nsIn K mainGlobals "layer_behind" = some (some (.ref f15)))
    (l15 : K.lookup f15 = some ⟨oc15, od15, .func (PySem.W.fnOf "layer_behind" "layer_behind" (defArgs sLb) (defBody sLb) (defScope sLb) .none kV15 dc15 pm15 an15 cd15 ct15), sl15⟩)
    (c15 : PySem.W.codeIn K cd15 "layer_behind" = true)
    (k15 : PySem.W.keepIn K (.ref f15) = true)
    (a16 : PySem.W.nsIn K mainGlobals "counts_in" = some (some (.ref f16)))
    (l16 : K.lookup f16 = some ⟨oc16, od16, .func (PySem.W.fnOf "counts_in" "counts_in" (defArgs sCt) (defBody sCt) (defScope sCt) .none kV16 dc16 pm16 an16 cd16 ct16), sl16⟩)
    (c16 : PySem.W.codeIn K cd16 "counts_in" = true)
    (k16 : PySem.W.keepIn K (.ref f16) = true)
    (a17 : PySem.W.nsIn K mainGlobals "turned_about" = some (some (.ref f17)))
    (l17 : K.lookup f17 = some ⟨oc17, od17, .func (PySem.W.fnOf "turned_about" "turned_about" (defArgs sTa) (defBody sTa) (defScope sTa) .none kV17 dc17 pm17 an17 cd17 ct17), sl17⟩)
    (c17 : PySem.W.codeIn K cd17 "turned_about" = true)
    (k17 : PySem.W.keepIn K (.ref f17) = true)
    (a18 : PySem.W.nsIn K mainGlobals "searched_to" = some (some (.ref f18)))
    (l18 : K.lookup f18 = some ⟨oc18, od18, .func (PySem.W.fnOf "searched_to" "searched_to" (defArgs sSt) (defBody sSt) (defScope sSt) .none kV18 dc18 pm18 an18 cd18 ct18), sl18⟩)
    (c18 : PySem.W.codeIn K cd18 "searched_to" = true)
    (k18 : PySem.W.keepIn K (.ref f18) = true)
    (a19 : PySem.W.nsIn K mainGlobals "clear_rows" = some (some (.ref f19)))
    (l19 : K.lookup f19 = some ⟨oc19, od19, .func (PySem.W.fnOf "clear_rows" "clear_rows" (defArgs sCr) (defBody sCr) (defScope sCr) .none kV19 dc19 pm19 an19 cd19 ct19), sl19⟩)
    (c19 : PySem.W.codeIn K cd19 "clear_rows" = true)
    (k19 : PySem.W.keepIn K (.ref f19) = true)
    (a20 : PySem.W.nsIn K mainGlobals "clear_stands" = some (some (.ref f20)))
    (l20 : K.lookup f20 = some ⟨oc20, od20, .func (PySem.W.fnOf "clear_stands" "clear_stands" (defArgs sCs) (defBody sCs) (defScope sCs) .none kV20 dc20 pm20 an20 cd20 ct20), sl20⟩)
    (c20 : PySem.W.codeIn K cd20 "clear_stands" = true)
    (k20 : PySem.W.keepIn K (.ref f20) = true)
    (a21 : PySem.W.nsIn K mainGlobals "moves_in" = some (some (.ref f21)))
    (l21 : K.lookup f21 = some ⟨oc21, od21, .func (PySem.W.fnOf "moves_in" "moves_in" (defArgs sMi) (defBody sMi) (defScope sMi) .none kV21 dc21 pm21 an21 cd21 ct21), sl21⟩)
    (c21 : PySem.W.codeIn K cd21 "moves_in" = true)
    (k21 : PySem.W.keepIn K (.ref f21) = true)
    (a22 : PySem.W.nsIn K mainGlobals "move_back" = some (some (.ref f22)))
    (l22 : K.lookup f22 = some ⟨oc22, od22, .func (PySem.W.fnOf "move_back" "move_back" (defArgs sMb) (defBody sMb) (defScope sMb) .none kV22 dc22 pm22 an22 cd22 ct22), sl22⟩)
    (c22 : PySem.W.codeIn K cd22 "move_back" = true)
    (k22 : PySem.W.keepIn K (.ref f22) = true)
    (a23 : PySem.W.nsIn K mainGlobals "clear_row" = some (some (.ref f23)))
    (l23 : K.lookup f23 = some ⟨oc23, od23, .func (PySem.W.fnOf "clear_row" "clear_row" (defArgs sCw) (defBody sCw) (defScope sCw) .none kV23 dc23 pm23 an23 cd23 ct23), sl23⟩)
    (c23 : PySem.W.codeIn K cd23 "clear_row" = true)
    (k23 : PySem.W.keepIn K (.ref f23) = true)
    (a24 : PySem.W.nsIn K mainGlobals "made_stand" = some (some (.ref f24)))
    (l24 : K.lookup f24 = some ⟨oc24, od24, .func (PySem.W.fnOf "made_stand" "made_stand" (defArgs sMs) (defBody sMs) (defScope sMs) .none kV24 dc24 pm24 an24 cd24 ct24), sl24⟩)
    (c24 : PySem.W.codeIn K cd24 "made_stand" = true)
    (k24 : PySem.W.keepIn K (.ref f24) = true)
    (a25 : PySem.W.nsIn K mainGlobals "hardest" = some (some (.ref f25)))
    (l25 : K.lookup f25 = some ⟨oc25, od25, .func (PySem.W.fnOf "hardest" "hardest" (defArgs sHa) (defBody sHa) (defScope sHa) .none kV25 dc25 pm25 an25 cd25 ct25), sl25⟩)
    (c25 : PySem.W.codeIn K cd25 "hardest" = true)
    (k25 : PySem.W.keepIn K (.ref f25) = true)
    (a26 : PySem.W.nsIn K mainGlobals "_law_pen" = some (some (.ref f26)))
    (l26 : K.lookup f26 = some ⟨oc26, od26, .func (PySem.W.fnOf "_law_pen" "_law_pen" (defArgs sPen) (defBody sPen) (defScope sPen) .none kV26 dc26 pm26 an26 cd26 ct26), sl26⟩)
    (c26 : PySem.W.codeIn K cd26 "_law_pen" = true)
    (k26 : PySem.W.keepIn K (.ref f26) = true)
    (a27 : PySem.W.nsIn K mainGlobals "_law_draw" = some (some (.ref f27)))
    (l27 : K.lookup f27 = some ⟨oc27, od27, .func (PySem.W.fnOf "_law_draw" "_law_draw" (defArgs sDraw) (defBody sDraw) (defScope sDraw) .none kV27 dc27 pm27 an27 cd27 ct27), sl27⟩)
    (c27 : PySem.W.codeIn K cd27 "_law_draw" = true)
    (k27 : PySem.W.keepIn K (.ref f27) = true)
    (a28 : PySem.W.nsIn K mainGlobals "_law_pick" = some (some (.ref f28)))
    (l28 : K.lookup f28 = some ⟨oc28, od28, .func (PySem.W.fnOf "_law_pick" "_law_pick" (defArgs sPick) (defBody sPick) (defScope sPick) .none kV28 dc28 pm28 an28 cd28 ct28), sl28⟩)
    (c28 : PySem.W.codeIn K cd28 "_law_pick" = true)
    (k28 : PySem.W.keepIn K (.ref f28) = true)
    (a29 : PySem.W.nsIn K mainGlobals "_law_drawn_yard" = some (some (.ref f29)))
    (l29 : K.lookup f29 = some ⟨oc29, od29, .func (PySem.W.fnOf "_law_drawn_yard" "_law_drawn_yard" (defArgs sDYard) (defBody sDYard) (defScope sDYard) .none kV29 dc29 pm29 an29 cd29 ct29), sl29⟩)
    (c29 : PySem.W.codeIn K cd29 "_law_drawn_yard" = true)
    (k29 : PySem.W.keepIn K (.ref f29) = true)
    (a30 : PySem.W.nsIn K mainGlobals "_law_without" = some (some (.ref f30)))
    (l30 : K.lookup f30 = some ⟨oc30, od30, .func (PySem.W.fnOf "_law_without" "_law_without" (defArgs sWithout) (defBody sWithout) (defScope sWithout) .none kV30 dc30 pm30 an30 cd30 ct30), sl30⟩)
    (c30 : PySem.W.codeIn K cd30 "_law_without" = true)
    (k30 : PySem.W.keepIn K (.ref f30) = true)
    (a31 : PySem.W.nsIn K mainGlobals "_law_drawn_ring" = some (some (.ref f31)))
    (l31 : K.lookup f31 = some ⟨oc31, od31, .func (PySem.W.fnOf "_law_drawn_ring" "_law_drawn_ring" (defArgs sRing) (defBody sRing) (defScope sRing) .none kV31 dc31 pm31 an31 cd31 ct31), sl31⟩)
    (c31 : PySem.W.codeIn K cd31 "_law_drawn_ring" = true)
    (k31 : PySem.W.keepIn K (.ref f31) = true)
    (a32 : PySem.W.nsIn K mainGlobals "_law_drawn_stand" = some (some (.ref f32)))
    (l32 : K.lookup f32 = some ⟨oc32, od32, .func (PySem.W.fnOf "_law_drawn_stand" "_law_drawn_stand" (defArgs sStand) (defBody sStand) (defScope sStand) .none kV32 dc32 pm32 an32 cd32 ct32), sl32⟩)
    (c32 : PySem.W.codeIn K cd32 "_law_drawn_stand" = true)
    (k32 : PySem.W.keepIn K (.ref f32) = true)
    (a33 : PySem.W.nsIn K mainGlobals "_law_stirred" = some (some (.ref f33)))
    (l33 : K.lookup f33 = some ⟨oc33, od33, .func (PySem.W.fnOf "_law_stirred" "_law_stirred" (defArgs sStir) (defBody sStir) (defScope sStir) .none kV33 dc33 pm33 an33 cd33 ct33), sl33⟩)
    (c33 : PySem.W.codeIn K cd33 "_law_stirred" = true)
    (k33 : PySem.W.keepIn K (.ref f33) = true)
    (a34 : PySem.W.nsIn K mainGlobals "_law_moves" = some (some (.ref f34)))
    (l34 : K.lookup f34 = some ⟨oc34, od34, .func (PySem.W.fnOf "_law_moves" "_law_moves" (defArgs sMoves) (defBody sMoves) (defScope sMoves) .none kV34 dc34 pm34 an34 cd34 ct34), sl34⟩)
    (c34 : PySem.W.codeIn K cd34 "_law_moves" = true)
    (k34 : PySem.W.keepIn K (.ref f34) = true)
    (a35 : PySem.W.nsIn K mainGlobals "_law_moved" = some (some (.ref f35)))
    (l35 : K.lookup f35 = some ⟨oc35, od35, .func (PySem.W.fnOf "_law_moved" "_law_moved" (defArgs sMoved) (defBody sMoved) (defScope sMoved) .none kV35 dc35 pm35 an35 cd35 ct35), sl35⟩)
    (c35 : PySem.W.codeIn K cd35 "_law_moved" = true)
    (k35 : PySem.W.keepIn K (.ref f35) = true)
    (a36 : PySem.W.nsIn K mainGlobals "_law_reached" = some (some (.ref f36)))
    (l36 : K.lookup f36 = some ⟨oc36, od36, .func (PySem.W.fnOf "_law_reached" "_law_reached" (defArgs sRe) (defBody sRe) (defScope sRe) .none kV36 dc36 pm36 an36 cd36 ct36), sl36⟩)
    (c36 : PySem.W.codeIn K cd36 "_law_reached" = true)
    (k36 : PySem.W.keepIn K (.ref f36) = true)
    (a37 : PySem.W.nsIn K mainGlobals "_law_fault" = some (some (.ref f37)))
    (l37 : K.lookup f37 = some ⟨oc37, od37, .func (PySem.W.fnOf "_law_fault" "_law_fault" (defArgs sFa) (defBody sFa) (defScope sFa) .none kV37 dc37 pm37 an37 cd37 ct37), sl37⟩)
    (c37 : PySem.W.codeIn K cd37 "_law_fault" = true)
    (k37 : PySem.W.keepIn K (.ref f37) = true)
    (a38 : PySem.W.nsIn K mainGlobals "_law_made_yard" = some (some (.ref f38)))
    (l38 : K.lookup f38 = some ⟨oc38, od38, .func (PySem.W.fnOf "_law_made_yard" "_law_made_yard" (defArgs sMk2) (defBody sMk2) (defScope sMk2) .none kV38 dc38 pm38 an38 cd38 ct38), sl38⟩)
    (c38 : PySem.W.codeIn K cd38 "_law_made_yard" = true)
    (k38 : PySem.W.keepIn K (.ref f38) = true)
    (a39 : PySem.W.nsIn K mainGlobals "_law_turned" = some (some (.ref f39)))
    (l39 : K.lookup f39 = some ⟨oc39, od39, .func (PySem.W.fnOf "_law_turned" "_law_turned" (defArgs sTu) (defBody sTu) (defScope sTu) .none kV39 dc39 pm39 an39 cd39 ct39), sl39⟩)
    (c39 : PySem.W.codeIn K cd39 "_law_turned" = true)
    (k39 : PySem.W.keepIn K (.ref f39) = true)
    (a40 : PySem.W.nsIn K mainGlobals "_law_renamed" = some (some (.ref f40)))
    (l40 : K.lookup f40 = some ⟨oc40, od40, .func (PySem.W.fnOf "_law_renamed" "_law_renamed" (defArgs sRn) (defBody sRn) (defScope sRn) .none kV40 dc40 pm40 an40 cd40 ct40), sl40⟩)
    (c40 : PySem.W.codeIn K cd40 "_law_renamed" = true)
    (k40 : PySem.W.keepIn K (.ref f40) = true)
    (a41 : PySem.W.nsIn K mainGlobals "_law_small_yard" = some (some (.ref f41)))
    (l41 : K.lookup f41 = some ⟨oc41, od41, .func (PySem.W.fnOf "_law_small_yard" "_law_small_yard" (defArgs sSm) (defBody sSm) (defScope sSm) .none kV41 dc41 pm41 an41 cd41 ct41), sl41⟩)
    (c41 : PySem.W.codeIn K cd41 "_law_small_yard" = true)
    (k41 : PySem.W.keepIn K (.ref f41) = true)
    (a42 : PySem.W.nsIn K mainGlobals "_law_ways_to" = some (some (.ref f42)))
    (l42 : K.lookup f42 = some ⟨oc42, od42, .func (PySem.W.fnOf "_law_ways_to" "_law_ways_to" (defArgs sWt) (defBody sWt) (defScope sWt) .none kV42 dc42 pm42 an42 cd42 ct42), sl42⟩)
    (c42 : PySem.W.codeIn K cd42 "_law_ways_to" = true)
    (k42 : PySem.W.keepIn K (.ref f42) = true)
    (a43 : PySem.W.nsIn K mainGlobals "_law_row_right" = some (some (.ref f43)))
    (l43 : K.lookup f43 = some ⟨oc43, od43, .func (PySem.W.fnOf "_law_row_right" "_law_row_right" (defArgs sRr) (defBody sRr) (defScope sRr) .none kV43 dc43 pm43 an43 cd43 ct43), sl43⟩)
    (c43 : PySem.W.codeIn K cd43 "_law_row_right" = true)
    (k43 : PySem.W.keepIn K (.ref f43) = true)
    (a44 : PySem.W.nsIn K mainGlobals "law" = some (some (.ref f44)))
    (l44 : K.lookup f44 = some ⟨oc44, od44, .func (PySem.W.fnOf "law" "law" (defArgs sLaw) (defBody sLaw) (defScope sLaw) .none kV44 dc44 pm44 an44 (.ref cL) ct44), sl44⟩)
    (c44 : PySem.W.codeIn K (.ref cL) "law" = true)
    (k44 : PySem.W.keepIn K (.ref f44) = true)
    (aS : PySem.W.nsIn K mainGlobals "searched" = some (some (.ref fS)))
    (lS : K.lookup fS = some ⟨ocS, odS, .func (PySem.W.fnOf "searched" "searched" (defArgs sSe) (defBody sSe) (defScope sSe) (.ref ftS) kVS dcS pmS anS cdS ctS), slS⟩)
    (ltS : K.lookup ftS = some ⟨octS, odtS, .seq #[.none] ntS, sltS⟩)
    (cS : PySem.W.codeIn K cdS "searched" = true)
    (kS : PySem.W.keepIn K (.ref fS) = true)
    (z0 : PySem.W.nsIn K mainGlobals "isinstance" = some none)
    (z1 : PySem.W.nsIn K mainGlobals "int" = some none)
    (z2 : PySem.W.nsIn K mainGlobals "bool" = some none)
    (z3 : PySem.W.nsIn K mainGlobals "tuple" = some none)
    (z4 : PySem.W.nsIn K mainGlobals "list" = some none)
    (z5 : PySem.W.nsIn K mainGlobals "len" = some none)
    (z6 : PySem.W.nsIn K mainGlobals "all" = some none)
    (z7 : PySem.W.nsIn K mainGlobals "set" = some none)
    (z8 : PySem.W.nsIn K mainGlobals "sorted" = some none)
    (z9 : PySem.W.nsIn K mainGlobals "enumerate" = some none)
    (z10 : PySem.W.nsIn K mainGlobals "range" = some none)
    (z11 : PySem.W.nsIn K mainGlobals "max" = some none)
    (z12 : PySem.W.nsIn K mainGlobals "sum" = some none)
    (z13 : PySem.W.nsIn K mainGlobals "repr" = some none)
    (z14 : PySem.W.nsIn K mainGlobals "reversed" = some none)
    (xTL : K.lookup cL = some ⟨eL, ddQL, .fields vsL, slL⟩)
    (pTL : vsL[11]? = some (.ref PL))
    (hTL : PySem.W.codeHdIn K cL PL = true)
    (nTL : K.lookup PL = none)
    (tTL : h.get? PL = some { cls := .none, data := .fields #[] }) :
    LawG l w K 14 63 "_law_script" mg fa h := by
  have e := hfa.symm.trans (PySem.W.mg_of X G a44)
  cases e
  have F0 := fun_mk (st := sYInit) l0 c0 k0
  have b0 := F0.binds (ps := ["self", "places", "ties", "rings"]) fun _ _ _ _ _ _ us hl => match us, hl with | [_, _, _, _], _ => rfl
  have F1 := fun_mk (st := sEq) l1 c1 k1
  have b1 := F1.binds (ps := ["self", "other"]) fun _ _ _ _ _ _ us hl => match us, hl with | [_, _], _ => rfl
  have F2 := fun_mk (st := sManyI) l2 c2 k2
  have b2 := F2.binds (ps := ["self", "most"]) fun _ _ _ _ _ _ us hl => match us, hl with | [_, _], _ => rfl
  have F3 := fun_mk (st := sNumI) l3 c3 k3
  have b3 := F3.binds (ps := ["self", "what", "number"]) fun _ _ _ _ _ _ us hl => match us, hl with | [_, _, _], _ => rfl
  have F4 := fun_mk (st := sIsInt) l4 c4 k4
  have b4 := F4.binds (ps := ["value"]) fun _ _ _ _ _ _ us hl => match us, hl with | [_], _ => rfl
  have F5 := fun_mk (st := sIsCount) l5 c5 k5
  have b5 := F5.binds (ps := ["value"]) fun _ _ _ _ _ _ us hl => match us, hl with | [_], _ => rfl
  have F6 := fun_mk (st := sIsRow) l6 c6 k6
  have b6 := F6.binds (ps := ["value"]) fun _ _ _ _ _ _ us hl => match us, hl with | [_], _ => rfl
  have F7 := fun_mk (st := sUnlike) l7 c7 k7
  have b7 := F7.binds (ps := ["many", "value"]) fun _ _ _ _ _ _ us hl => match us, hl with | [_, _], _ => rfl
  have F8 := fun_mk (st := sCTies) l8 c8 k8
  have b8 := F8.binds (ps := ["places", "ties"]) fun _ _ _ _ _ _ us hl => match us, hl with | [_, _], _ => rfl
  have F9 := fun_mk (st := sCRings) l9 c9 k9
  have b9 := F9.binds (ps := ["places", "rings"]) fun _ _ _ _ _ _ us hl => match us, hl with | [_, _], _ => rfl
  have F10 := fun_mk (st := sFilled) l10 c10 k10
  have b10 := F10.binds (ps := ["stand"]) fun _ _ _ _ _ _ us hl => match us, hl with | [_], _ => rfl
  have F11 := fun_mk (st := sIsFilled) l11 c11 k11
  have b11 := F11.binds (ps := ["yard", "value"]) fun _ _ _ _ _ _ us hl => match us, hl with | [_, _], _ => rfl
  have F12 := fun_mk (st := sMovesAt) l12 c12 k12
  have b12 := F12.binds (ps := ["yard", "row"]) fun _ _ _ _ _ _ us hl => match us, hl with | [_, _], _ => rfl
  have F13 := fun_mk (st := sBehind) l13 c13 k13
  have b13 := F13.binds (ps := ["yard", "stand", "move"]) fun _ _ _ _ _ _ us hl => match us, hl with | [_, _, _], _ => rfl
  have F14 := fun_mk (st := sStepsF) l14 c14 k14
  have b14 := F14.binds (ps := ["yard", "stand"]) fun _ _ _ _ _ _ us hl => match us, hl with | [_, _], _ => rfl
  have F15 := fun_mk (st := sLb) l15 c15 k15
  have b15 := F15.binds (ps := ["yard", "layer", "seen"]) fun _ _ _ _ _ _ us hl => match us, hl with | [_, _, _], _ => rfl
  have F16 := fun_mk (st := sCt) l16 c16 k16
  have b16 := F16.binds (ps := ["found"]) fun _ _ _ _ _ _ us hl => match us, hl with | [_], _ => rfl
  have F17 := fun_mk (st := sTa) l17 c17 k17
  have b17 := F17.binds (ps := ["yard"]) fun _ _ _ _ _ _ us hl => match us, hl with | [_], _ => rfl
  have F18 := fun_mk (st := sSt) l18 c18 k18
  have b18 := F18.binds (ps := ["yard", "goal", "most"]) fun _ _ _ _ _ _ us hl => match us, hl with | [_, _, _], _ => rfl
  have F19 := fun_mk (st := sCr) l19 c19 k19
  have b19 := F19.binds (ps := ["found"]) fun _ _ _ _ _ _ us hl => match us, hl with | [_], _ => rfl
  have F20 := fun_mk (st := sCs) l20 c20 k20
  have b20 := F20.binds (ps := ["yard", "goal", "most"]) fun _ _ _ _ _ _ us hl => match us, hl with | [_, _, _], _ => rfl
  have F21 := fun_mk (st := sMi) l21 c21 k21
  have b21 := F21.binds (ps := ["found", "other"]) fun _ _ _ _ _ _ us hl => match us, hl with | [_, _], _ => rfl
  have F22 := fun_mk (st := sMb) l22 c22 k22
  have b22 := F22.binds (ps := ["move"]) fun _ _ _ _ _ _ us hl => match us, hl with | [_], _ => rfl
  have F23 := fun_mk (st := sCw) l23 c23 k23
  have b23 := F23.binds (ps := ["yard", "goal", "stand", "most"]) fun _ _ _ _ _ _ us hl => match us, hl with | [_, _, _, _], _ => rfl
  have F24 := fun_mk (st := sMs) l24 c24 k24
  have b24 := F24.binds (ps := ["yard", "goal", "far", "number", "most"]) fun _ _ _ _ _ _ us hl => match us, hl with | [_, _, _, _, _], _ => rfl
  have F25 := fun_mk (st := sHa) l25 c25 k25
  have b25 := F25.binds (ps := ["yard", "goal", "most"]) fun _ _ _ _ _ _ us hl => match us, hl with | [_, _, _], _ => rfl
  have F26 := fun_mk (st := sPen) l26 c26 k26
  have b26 := F26.binds (ps := ["_law_script"]) fun _ _ _ _ _ _ us hl => match us, hl with | [_], _ => rfl
  have F27 := fun_mk (st := sDraw) l27 c27 k27
  have b27 := F27.binds (ps := ["_law_pen_here", "_law_many"]) fun _ _ _ _ _ _ us hl => match us, hl with | [_, _], _ => rfl
  have F28 := fun_mk (st := sPick) l28 c28 k28
  have b28 := F28.binds (ps := ["_law_pen_here", "_law_some"]) fun _ _ _ _ _ _ us hl => match us, hl with | [_, _], _ => rfl
  have F29 := fun_mk (st := sDYard) l29 c29 k29
  have b29 := F29.binds (ps := ["_law_pen_here", "_law_most", "_law_ways", "_law_rings"]) fun _ _ _ _ _ _ us hl => match us, hl with | [_, _, _, _], _ => rfl
  have F30 := fun_mk (st := sWithout) l30 c30 k30
  have b30 := F30.binds (ps := ["_law_pairs", "_law_gone"]) fun _ _ _ _ _ _ us hl => match us, hl with | [_, _], _ => rfl
  have F31 := fun_mk (st := sRing) l31 c31 k31
  have b31 := F31.binds (ps := ["_law_pen_here", "_law_places"]) fun _ _ _ _ _ _ us hl => match us, hl with | [_, _], _ => rfl
  have F32 := fun_mk (st := sStand) l32 c32 k32
  have b32 := F32.binds (ps := ["_law_pen_here", "_law_places", "_law_holes", "_law_kinds"]) fun _ _ _ _ _ _ us hl => match us, hl with | [_, _, _, _], _ => rfl
  have F33 := fun_mk (st := sStir) l33 c33 k33
  have b33 := F33.binds (ps := ["_law_pen_here", "_law_stand"]) fun _ _ _ _ _ _ us hl => match us, hl with | [_, _], _ => rfl
  have F34 := fun_mk (st := sMoves) l34 c34 k34
  have b34 := F34.binds (ps := ["_law_yard", "_law_stand"]) fun _ _ _ _ _ _ us hl => match us, hl with | [_, _], _ => rfl
  have F35 := fun_mk (st := sMoved) l35 c35 k35
  have b35 := F35.binds (ps := ["_law_yard", "_law_stand", "_law_move"]) fun _ _ _ _ _ _ us hl => match us, hl with | [_, _, _], _ => rfl
  have F36 := fun_mk (st := sRe) l36 c36 k36
  have b36 := F36.binds (ps := ["_law_yard", "_law_stand", "_law_most"]) fun _ _ _ _ _ _ us hl => match us, hl with | [_, _, _], _ => rfl
  have F37 := fun_mk (st := sFa) l37 c37 k37
  have b37 := F37.binds (ps := ["_law_call"]) fun _ _ _ _ _ _ us hl => match us, hl with | [_], _ => rfl
  have F38 := fun_mk (st := sMk2) l38 c38 k38
  have b38 := F38.binds (ps := ["_law_yard"]) fun _ _ _ _ _ _ us hl => match us, hl with | [_], _ => rfl
  have F39 := fun_mk (st := sTu) l39 c39 k39
  have b39 := F39.binds (ps := ["_law_yard"]) fun _ _ _ _ _ _ us hl => match us, hl with | [_], _ => rfl
  have F40 := fun_mk (st := sRn) l40 c40 k40
  have b40 := F40.binds (ps := ["_law_pen_here", "_law_stand"]) fun _ _ _ _ _ _ us hl => match us, hl with | [_, _], _ => rfl
  have F41 := fun_mk (st := sSm) l41 c41 k41
  have b41 := F41.binds (ps := ["_law_pen_here"]) fun _ _ _ _ _ _ us hl => match us, hl with | [_], _ => rfl
  have F42 := fun_mk (st := sWt) l42 c42 k42
  have b42 := F42.binds (ps := ["_law_yard", "_law_goal"]) fun _ _ _ _ _ _ us hl => match us, hl with | [_, _], _ => rfl
  have F43 := fun_mk (st := sRr) l43 c43 k43
  have b43 := F43.binds (ps := ["_law_yard", "_law_goal", "_law_far", "_law_counts", "_law_stand", "_law_told"]) fun _ _ _ _ _ _ us hl => match us, hl with | [_, _, _, _, _, _], _ => rfl
  have F44 := fun_mk (st := sLaw) l44 c44 k44
  refine ⟨PySem.W.fnOf "law" "law" (defArgs sLaw) (defBody sLaw) (defScope sLaw) .none kV44 dc44 pm44 an44 (.ref cL) ct44, [(cL, PL)], spLaw K PL, ⟨fun p hp => ?_, fun p hp => ?_, fun p hp => ?_⟩, fun s v => .of_eq rfl, fun H a ns hl hH hS => ⟨a, ns, rfl, hS, hl, hH (cL, PL) (List.mem_singleton.mpr rfl), fun _ => rfl⟩, fun base _ _ hTB => ?_⟩
  · rw [List.mem_singleton.mp hp]
    exact tTL
  · rw [List.mem_singleton.mp hp]
    exact nTL
  · rw [List.mem_singleton.mp hp]
    exact PySem.W.codeHd_of_K X hTL
  have TBL := hTB (cL, PL) (List.mem_singleton.mpr rfl)
  have xcU : XcC K CU := ⟨⟨⟨nmU, qU, NU, bsU, _, snU, subU, abU, colU, ddU, m0U, m1U, m2U, m3U, m5U, xLU, rfl⟩, saU, eCU, tCU, kCU⟩, ⟨gaU, ggU, eCU, hCU⟩, sUU, iCU⟩
  have xcM : XcC K CM := ⟨⟨⟨nmM, qM, NM, bsM, _, snM, subM, abM, colM, ddM, m0M, m1M, m2M, m3M, m5M, xLM, rfl⟩, saM, eCM, tCM, kCM⟩, ⟨gaM, ggM, eCM, hCM⟩, sMM, iCM⟩
  have xcN : XcC K CN := ⟨⟨⟨nmN, qN, NN, bsN, _, snN, subN, abN, colN, ddN, m0N, m1N, m2N, m3N, m5N, xLN, rfl⟩, saN, eCN, tCN, kCN⟩, ⟨gaN, ggN, eCN, hCN⟩, sNN, iCN⟩
  have FS : FunD K "searched" "searched" (defArgs sSe) (defBody sSe) (defScope sSe) [V.non] [] fS _ := ⟨⟨ocS, odS, .ref ftS, kVS, dcS, pmS, anS, cdS, ctS, slS, rfl, lS, cS, .inr ⟨by simp, ftS, _, [Value.none], ntS, rfl, ltS, rfl, .cons rfl .nil⟩, .inl rfl⟩, kS⟩
  have xM : XE1 K mg "TooMany" "most" CM f2 := ⟨(PySem.W.mg_of X G aEM), xcM, a2, t2, nEM0⟩
  have xN : XE2 K mg "BadNumber" "what" "number" CN f3 := ⟨(PySem.W.mg_of X G aEN), xcN, a3, t3, nEN0, nEN1⟩
  have tfa : TFa K mg CU CM CN := ⟨(PySem.W.mg_none_of X G z13), (PySem.W.mg_of X G aEU), (PySem.W.mg_of X G aEM), (PySem.W.mg_of X G aEN), xcU.x, xcM.x, xcN.x, nEU0, nEM0, nEN0, nEN1, exm_of eCU iCU tCU sMU, exm_of eCM iCM tCM sMM⟩
  have tfb : TFb K mg CU CM CN := ⟨tfa, exm_of eCU iCU tCU sNU, exm_of eCM iCM tCM sNM, exm_of eCN iCN tCN sNN⟩
  have yc : YCls K C0 := ⟨⟨pg0, hd0, po0, sa0⟩, n0_0, n0_1, n0_2⟩
  have ti : TI0 mg := ⟨(PySem.W.mg_none_of X G z0), (PySem.W.mg_none_of X G z1), (PySem.W.mg_none_of X G z2), (PySem.W.mg_none_of X G z3), (PySem.W.mg_none_of X G z4)⟩
  have tu : TUn K mg f4 f6 f7 f5 := ⟨ti, (PySem.W.mg_none_of X G z5), (PySem.W.mg_none_of X G z6), (PySem.W.mg_none_of X G z7), (PySem.W.mg_none_of X G z8), (PySem.W.mg_none_of X G z9), (PySem.W.mg_of X G a4), (PySem.W.mg_of X G a6), (PySem.W.mg_of X G a7), (PySem.W.mg_of X G a5)⟩
  have ty : TYd K mg C0 f4 f6 f7 f5 f8 f9 := ⟨tu, (PySem.W.mg_of X G a8), (PySem.W.mg_of X G a9), yc, PySem.W.mg_of X G aC0⟩
  have tr : TR K mg f7 := ⟨ti, (PySem.W.mg_none_of X G z9), (PySem.W.mg_none_of X G z8), (PySem.W.mg_none_of X G z10), (PySem.W.mg_none_of X G z5), (PySem.W.mg_of X G a7)⟩
  have tp : TxP K mg f27 := ⟨(PySem.W.mg_none_of X G z1), (PySem.W.mg_none_of X G z4), (PySem.W.mg_none_of X G z5), (PySem.W.mg_of X G a27)⟩
  have tg : Y.TG K mg f27 := ⟨tp, (PySem.W.mg_none_of X G z10), (PySem.W.mg_none_of X G z3)⟩
  have tyl : TY K mg f27 f28 f30 f31 := ⟨tg, (PySem.W.mg_none_of X G z8), (PySem.W.mg_of X G a28), (PySem.W.mg_of X G a30), (PySem.W.mg_of X G a31)⟩
  have tlw : TLw K mg C0 f26 f28 f41 f38 f39 f17 f42 f43 f33 f20 f23 f25 f24 f1 f27 := ⟨tg, (PySem.W.mg_none_of X G z13), (PySem.W.mg_none_of X G z8), (PySem.W.mg_none_of X G z11), (PySem.W.mg_of X G a26), (PySem.W.mg_of X G a28), (PySem.W.mg_of X G a41), (PySem.W.mg_of X G a38), (PySem.W.mg_of X G a39), (PySem.W.mg_of X G a17), (PySem.W.mg_of X G a42), (PySem.W.mg_of X G a43), (PySem.W.mg_of X G a33), (PySem.W.mg_of X G a20), (PySem.W.mg_of X G a23), (PySem.W.mg_of X G a25), (PySem.W.mg_of X G a24), a1, i1⟩
  have mkY : Mk K C0 f0 := ⟨mk0, a0, i0, kc0⟩
  have okY : OwnK K C0 := ⟨yc0, ye3, ye4, ym0⟩
  obtain ⟨dsN, hdN, bS3⟩ := FS.binds1 (ps := ["yard", "one", "most", "other"]) 3 0 (by simp) rfl fun T kV doc pm an cdv ct us its h1 h2 => match us, its, h1, h2 with | [_, _, _], [_], _, _ => ⟨_, rfl, rfl⟩
  have gUn := ok_unlike (P := l.prog) (w := w) (mg := mg) (base := base) F7 tu F4 b4 F6 b6 F5 b5
  have gCT := ok_cties (P := l.prog) (w := w) (mg := mg) (base := base) F8 tu F6 b6 gUn F7 b7
  have gCR := ok_crings (P := l.prog) (w := w) (mg := mg) (base := base) F9 tu F6 b6 gUn F7 b7
  have gYI := ok_yinit (P := l.prog) (w := w) (mg := mg) (base := base) F0 ty F4 b4 gCT F8 b8 gCR F9 b9
  have gEq := ok_eq (P := l.prog) (w := w) (mg := mg) (base := base) F1 (PySem.W.mg_none_of X G z0) (PySem.W.mg_of X G aC0) okY kit_own
  have gMI := ok_manyI (P := l.prog) (w := w) (mg := mg) (base := base) F2 xM
  have gNI := ok_numI (P := l.prog) (w := w) (mg := mg) (base := base) F3 xN
  have gIC := ok_isCountD (P := l.prog) (w := w) (mg := mg) (base := base) F5 ti (PySem.W.mg_of X G a4) F4 b4
  have gIF := ok_isFilled (P := l.prog) (w := w) (mg := mg) (base := base) F11 tr gUn F7 b7
  have gFi := ok_filT (P := l.prog) (w := w) (mg := mg) (base := base) F10 tr
  have gMA := ok_movesAt (P := l.prog) (w := w) (mg := mg) (base := base) F12 tr (PySem.W.mg_of X G a11) gIF F11 b11
  have gBe := ok_behind (P := l.prog) (w := w) (mg := mg) (base := base) F13 ⟨ti, (PySem.W.mg_none_of X G z9)⟩
  have gSF := ok_stepsF (P := l.prog) (w := w) (mg := mg) (base := base) F14 tr (PySem.W.mg_of X G a12) (PySem.W.mg_of X G a10) (PySem.W.mg_of X G a13) gMA F12 b12 gFi F10 b10 gBe F13 b13
  have gLB := ok_lb (P := l.prog) (w := w) (mg := mg) (base := base) F15 (PySem.W.mg_of X G a14) gSF F14 b14
  have gSE := ok_se (P := l.prog) (w := w) (mg := mg) (base := base) FS (PySem.W.mg_none_of X G z3) (PySem.W.mg_none_of X G z5) (PySem.W.mg_of X G a15) gLB F15 b15 xM gMI b2
  have gCt := ok_ct (P := l.prog) (w := w) (mg := mg) (base := base) F16 (PySem.W.mg_none_of X G z12)
  have gTa := ok_ta (P := l.prog) (w := w) (mg := mg) (base := base) F17 ty mkY gYI b0
  have gSt := ok_st (P := l.prog) (w := w) (mg := mg) (base := base) F18 hdN (PySem.W.mg_of X G aS) kS gSE bS3 (PySem.W.mg_of X G a17) gTa F17 b17
  have gCr := ok_cr (P := l.prog) (w := w) (mg := mg) (base := base) F19 (PySem.W.mg_none_of X G z3) (PySem.W.mg_none_of X G z8) (PySem.W.mg_of X G a16) gCt F16 b16
  have gCs := ok_cs (P := l.prog) (w := w) (mg := mg) (base := base) F20 (PySem.W.mg_of X G a18) gSt F18 b18 (PySem.W.mg_of X G a19) gCr F19 b19
  have gMi := ok_mi (P := l.prog) (w := w) (mg := mg) (base := base) F21 (PySem.W.mg_none_of X G z3) (PySem.W.mg_none_of X G z14)
  have gMb := ok_mb (P := l.prog) (w := w) (mg := mg) (base := base) F22
  have gCw := ok_cw (P := l.prog) (w := w) (mg := mg) (base := base) F23 (PySem.W.mg_none_of X G z3) (PySem.W.mg_none_of X G z9) (PySem.W.mg_none_of X G z14) (PySem.W.mg_of X G a18) gSt F18 b18 (PySem.W.mg_of X G a19) gCr F19 b19 (PySem.W.mg_of X G a21) gMi F21 b21 (PySem.W.mg_of X G a22) gMb F22 b22
  have gMs := ok_ms (P := l.prog) (w := w) (mg := mg) (base := base) F24 (PySem.W.mg_none_of X G z5) (PySem.W.mg_of X G a20) gCs F20 b20 (PySem.W.mg_of X G a5) gIC F5 b5 xN gNI b3
  have gHa := ok_ha (P := l.prog) (w := w) (mg := mg) (base := base) F25 (PySem.W.mg_none_of X G z5) (PySem.W.mg_of X G a20) gCs F20 b20
  have gPen := ok_pen (P := l.prog) (w := w) (mg := mg) (base := base) F26 tp
  have gD := ok_draw (P := l.prog) (w := w) (mg := mg) (base := base) F27 tp
  have gPk := ok_pick (P := l.prog) (w := w) (mg := mg) (base := base) F28 tp F27 b27
  have gDY := ok_dyard (P := l.prog) (w := w) (mg := mg) (base := base) F29 tyl F27 b27 F28 b28 F30 b30 F31 b31
  have gDS := ok_stand (P := l.prog) (w := w) (mg := mg) (base := base) F32 tg F27 b27
  have gRn := ok_rn (P := l.prog) (w := w) (mg := mg) (base := base) F40 tg F27 b27
  have gSm := ok_sm (P := l.prog) (w := w) (mg := mg) (base := base) F41 tg F27 b27 (PySem.W.mg_of X G a29) gDY F29 b29 (PySem.W.mg_of X G a32) gDS F32 b32 (PySem.W.mg_of X G a40) gRn F40 b40
  have gMv := ok_movesN (P := l.prog) (w := w) (mg := mg) (base := base) F34 tg
  have gMd := ok_moved (P := l.prog) (w := w) (mg := mg) (base := base) F35 tg
  have gRe := ok_re (P := l.prog) (w := w) (mg := mg) (base := base) F36 tg (PySem.W.mg_of X G a34) (PySem.W.mg_of X G a35) gMv F34 b34 gMd F35 b35
  have gTu := ok_tu (P := l.prog) (w := w) (mg := mg) (base := base) F39 (PySem.W.mg_none_of X G z3) (PySem.W.mg_none_of X G z8)
  have gWt := ok_wt (P := l.prog) (w := w) (mg := mg) (base := base) F42 tg (PySem.W.mg_none_of X G z11) (PySem.W.mg_none_of X G z4) (PySem.W.mg_none_of X G z12) (PySem.W.mg_of X G a34) gMv F34 b34 (PySem.W.mg_of X G a35) gMd F35 b35 (PySem.W.mg_of X G a39) gTu F39 b39 (PySem.W.mg_of X G a36) gRe F36 b36
  have gRr := ok_rr (P := l.prog) (w := w) (mg := mg) (base := base) F43 tg ti (PySem.W.mg_of X G a34) gMv F34 b34 (PySem.W.mg_of X G a35) gMd F35 b35
  have gMk := ok_mk2 (P := l.prog) (w := w) (mg := mg) (base := base) F38 ty mkY gYI b0
  have gSr := ok_stir (P := l.prog) (w := w) (mg := mg) (base := base) F33 tg F27 b27
  exact ok_law (P := l.prog) (w := w) (mg := mg) (base := base) F44 rfl TBL tlw tfb (PySem.W.mg_of X G a37) F37 b37 gD F27 b27 gPk F28 b28 gPen F26 b26 gSm F41 b41 gMk F38 b38 gTu F39 b39 gTa F17 b17 gWt F42 b42 gRr F43 b43 gSr F33 b33 gCs F20 b20 gCw F23 b23 gHa F25 b25 gMs F24 b24 gEq b1
end Y
set_option Elab.async false
set_option linter.all false
open PySem PySem.W PyProof.Rows
set_option maxRecDepth 100000 in
set_option maxHeartbeats 0 in
theorem PySem.Challenge.cw_slideyards_k30_whole_puzzles_made_holds : PySem.Challenge.rw_slideyards_k30_whole_puzzles_made.Holds := by
  w_on; o_law; k_head; (case hw => w_witness2)
  k_fill
  refine Y.walk_G (l := PySem.Challenge.rw_slideyards_k30_whole_puzzles_made) (k := 14) (n := 63) (x := "_law_script") rfl (by decide) rfl ⟨rfl, by decide, by decide⟩ (fun w h Y => PySem.W.km_in_of Y) ?F
  case F =>
    intro w mg fa h hk KX G hmg
    refine' Y.all_mk KX G hmg ?aC0 ?pg0 ?hd0 ?po0 ?sa0 ?mk0 ?kc0 ?n0_0 ?n0_1 ?n0_2 ?yc0 ?ym0 ?yi0 ?yy0 ?ye3 ?ye4 ?aEU ?gaU ?ggU ?eCU ?hCU ?nEU0 ?tCU ?iCU ?xLU ?saU ?kCU ?aEM ?gaM ?ggM ?eCM ?hCM ?nEM0 ?tCM ?iCM ?xLM ?saM ?kCM ?aEN ?gaN ?ggN ?eCN ?hCN ?nEN0 ?nEN1 ?tCN ?iCN ?xLN ?saN ?kCN ?sUU ?sMU ?sMM ?sNU ?sNM ?sNN ?a0 ?i0 ?l0 ?c0 ?k0 ?a1 ?i1 ?l1 ?c1 ?k1 ?a2 ?t2 ?l2 ?c2 ?k2 ?a3 ?t3 ?l3 ?c3 ?k3 ?a4 ?l4 ?c4 ?k4 ?a5 ?l5 ?c5 ?k5 ?a6 ?l6 ?c6 ?k6 ?a7 ?l7 ?c7 ?k7 ?a8 ?l8 ?c8 ?k8 ?a9 ?l9 ?c9 ?k9 ?a10 ?l10 ?c10 ?k10 ?a11 ?l11 ?c11 ?k11 ?a12 ?l12 ?c12 ?k12 ?a13 ?l13 ?c13 ?k13 ?a14 ?l14 ?c14 ?k14 ?a15 ?l15 ?c15 ?k15 ?a16 ?l16 ?c16 ?k16 ?a17 ?l17 ?c17 ?k17 ?a18 ?l18 ?c18 ?k18 ?a19 ?l19 ?c19 ?k19 ?a20 ?l20 ?c20 ?k20 ?a21 ?l21 ?c21 ?k21 ?a22 ?l22 ?c22 ?k22 ?a23 ?l23 ?c23 ?k23 ?a24 ?l24 ?c24 ?k24 ?a25 ?l25 ?c25 ?k25 ?a26 ?l26 ?c26 ?k26 ?a27 ?l27 ?c27 ?k27 ?a28 ?l28 ?c28 ?k28 ?a29 ?l29 ?c29 ?k29 ?a30 ?l30 ?c30 ?k30 ?a31 ?l31 ?c31 ?k31 ?a32 ?l32 ?c32 ?k32 ?a33 ?l33 ?c33 ?k33 ?a34 ?l34 ?c34 ?k34 ?a35 ?l35 ?c35 ?k35 ?a36 ?l36 ?c36 ?k36 ?a37 ?l37 ?c37 ?k37 ?a38 ?l38 ?c38 ?k38 ?a39 ?l39 ?c39 ?k39 ?a40 ?l40 ?c40 ?k40 ?a41 ?l41 ?c41 ?k41 ?a42 ?l42 ?c42 ?k42 ?a43 ?l43 ?c43 ?k43 ?a44 ?l44 ?c44 ?k44 ?aS ?lS ?ltS ?cS ?kS ?z0 ?z1 ?z2 ?z3 ?z4 ?z5 ?z6 ?z7 ?z8 ?z9 ?z10 ?z11 ?z12 ?z13 ?z14 ?xTL ?pTL ?hTL ?nTL ?tTL
    (case aC0 => k_is); (case pg0 => k_is); (case hd0 => k_is); (case po0 => k_is); (case sa0 => k_is); (case mk0 => k_is)
    (case kc0 => k_is); (case n0_0 => k_is); (case n0_1 => k_is); (case n0_2 => k_is); (case yc0 => k_is); (case ym0 => k_is)
    (case yi0 => k_is); (case yy0 => k_is); (case ye3 => k_is); (case ye4 => k_is); (case aEU => k_is); (case gaU => k_is)
    (case ggU => k_is); (case eCU => k_is); (case hCU => k_is); (case nEU0 => k_is); (case tCU => k_is); (case iCU => k_is)
    (case xLU => k_is); (case saU => k_is); (case kCU => k_is); (case aEM => k_is); (case gaM => k_is); (case ggM => k_is)
    (case eCM => k_is); (case hCM => k_is); (case nEM0 => k_is); (case tCM => k_is); (case iCM => k_is); (case xLM => k_is)
    (case saM => k_is); (case kCM => k_is); (case aEN => k_is); (case gaN => k_is); (case ggN => k_is); (case eCN => k_is)
    (case hCN => k_is); (case nEN0 => k_is); (case nEN1 => k_is); (case tCN => k_is); (case iCN => k_is); (case xLN => k_is)
    (case saN => k_is); (case kCN => k_is); (case sUU => k_is); (case sMU => k_is); (case sMM => k_is); (case sNU => k_is)
    (case sNM => k_is); (case sNN => k_is); (case a0 => k_is); (case i0 => k_is); (case l0 => k_is); (case c0 => k_is)
    (case k0 => k_is); (case a1 => k_is); (case i1 => k_is); (case l1 => k_is); (case c1 => k_is); (case k1 => k_is)
    (case a2 => k_is); (case t2 => k_is); (case l2 => k_is); (case c2 => k_is); (case k2 => k_is); (case a3 => k_is)
    (case t3 => k_is); (case l3 => k_is); (case c3 => k_is); (case k3 => k_is); (case a4 => k_is); (case l4 => k_is)
    (case c4 => k_is); (case k4 => k_is); (case a5 => k_is); (case l5 => k_is); (case c5 => k_is); (case k5 => k_is)
    (case a6 => k_is); (case l6 => k_is); (case c6 => k_is); (case k6 => k_is); (case a7 => k_is); (case l7 => k_is)
    (case c7 => k_is); (case k7 => k_is); (case a8 => k_is); (case l8 => k_is); (case c8 => k_is); (case k8 => k_is)
    (case a9 => k_is); (case l9 => k_is); (case c9 => k_is); (case k9 => k_is); (case a10 => k_is); (case l10 => k_is)
    (case c10 => k_is); (case k10 => k_is); (case a11 => k_is); (case l11 => k_is); (case c11 => k_is); (case k11 => k_is)
    (case a12 => k_is); (case l12 => k_is); (case c12 => k_is); (case k12 => k_is); (case a13 => k_is); (case l13 => k_is)
    (case c13 => k_is); (case k13 => k_is); (case a14 => k_is); (case l14 => k_is); (case c14 => k_is); (case k14 => k_is)
    (case a15 => k_is); (case l15 => k_is); (case c15 => k_is); (case k15 => k_is); (case a16 => k_is); (case l16 => k_is)
    (case c16 => k_is); (case k16 => k_is); (case a17 => k_is); (case l17 => k_is); (case c17 => k_is); (case k17 => k_is)
    (case a18 => k_is); (case l18 => k_is); (case c18 => k_is); (case k18 => k_is); (case a19 => k_is); (case l19 => k_is)
    (case c19 => k_is); (case k19 => k_is); (case a20 => k_is); (case l20 => k_is); (case c20 => k_is); (case k20 => k_is)
    (case a21 => k_is); (case l21 => k_is); (case c21 => k_is); (case k21 => k_is); (case a22 => k_is); (case l22 => k_is)
    (case c22 => k_is); (case k22 => k_is); (case a23 => k_is); (case l23 => k_is); (case c23 => k_is); (case k23 => k_is)
    (case a24 => k_is); (case l24 => k_is); (case c24 => k_is); (case k24 => k_is); (case a25 => k_is); (case l25 => k_is)
    (case c25 => k_is); (case k25 => k_is); (case a26 => k_is); (case l26 => k_is); (case c26 => k_is); (case k26 => k_is)
    (case a27 => k_is); (case l27 => k_is); (case c27 => k_is); (case k27 => k_is); (case a28 => k_is); (case l28 => k_is)
    (case c28 => k_is); (case k28 => k_is); (case a29 => k_is); (case l29 => k_is); (case c29 => k_is); (case k29 => k_is)
    (case a30 => k_is); (case l30 => k_is); (case c30 => k_is); (case k30 => k_is); (case a31 => k_is); (case l31 => k_is)
    (case c31 => k_is); (case k31 => k_is); (case a32 => k_is); (case l32 => k_is); (case c32 => k_is); (case k32 => k_is)
    (case a33 => k_is); (case l33 => k_is); (case c33 => k_is); (case k33 => k_is); (case a34 => k_is); (case l34 => k_is)
    (case c34 => k_is); (case k34 => k_is); (case a35 => k_is); (case l35 => k_is); (case c35 => k_is); (case k35 => k_is)
    (case a36 => k_is); (case l36 => k_is); (case c36 => k_is); (case k36 => k_is); (case a37 => k_is); (case l37 => k_is)
    (case c37 => k_is); (case k37 => k_is); (case a38 => k_is); (case l38 => k_is); (case c38 => k_is); (case k38 => k_is)
    (case a39 => k_is); (case l39 => k_is); (case c39 => k_is); (case k39 => k_is); (case a40 => k_is); (case l40 => k_is)
    (case c40 => k_is); (case k40 => k_is); (case a41 => k_is); (case l41 => k_is); (case c41 => k_is); (case k41 => k_is)
    (case a42 => k_is); (case l42 => k_is); (case c42 => k_is); (case k42 => k_is); (case a43 => k_is); (case l43 => k_is)
    (case c43 => k_is); (case k43 => k_is); (case a44 => k_is); (case l44 => k_is); (case c44 => k_is); (case k44 => k_is)
    (case aS => k_is); (case lS => k_is); (case ltS => k_is); (case cS => k_is); (case kS => k_is); (case z0 => k_is)
    (case z1 => k_is); (case z2 => k_is); (case z3 => k_is); (case z4 => k_is); (case z5 => k_is); (case z6 => k_is)
    (case z7 => k_is); (case z8 => k_is); (case z9 => k_is); (case z10 => k_is); (case z11 => k_is); (case z12 => k_is)
    (case z13 => k_is); (case z14 => k_is); (case xTL => k_is); (case pTL => rfl); (case hTL => rfl); (case nTL => rfl)
    (case tTL => exact PySem.W.km_tabs_of hk _ (by decide))
