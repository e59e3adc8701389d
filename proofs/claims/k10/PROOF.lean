import PyProof.Rows.All
import Wide.All
import OpenK.AllK
import Wide.FinOn
import HandS.ForMost
import HandS.DictComp
import PyProof.Rows.TupDisplay
import HandS.Walk
import PyProof.EnumMake
import PyProof.Draws
import KE.GoesMore
import HandS.ForExc
import HandS.Lambda
import HandS.EndTab
import HandS.TupSets
import HandS.SetFor
import HandS.SortKw
import KE.DataMinMax
import HandS.Wide
import HandS.Conv
import PyProof.ListIndex
import HandS.Rev
import HandS.TryOnly
import HandS.ExcInit
import HandS.ExcField
import HandS.IsInst
import KE.KExcIs
import PyProof.ReprRoads
import HandS.Strs
import KE.KIntText
import HandS.SortInts
import HandS.Deep
import PyProof.P3In
import HandS.NamedTupSort
import HandS.TupAny
import PySem.Challenge.RW_slideyards_k10_lots_refused
import HandS.Codes
import HandS.Style
import HandS.Flow
import PyProof.EqAt
import HandS.WordsExc
import HandS.TupLe
import HandS.Words
set_option Elab.async false
set_option linter.all false
set_option maxRecDepth 100000
set_option maxHeartbeats 2000000
/-! dict comprehensions whose keys are tuples -/
namespace L2
open PySem PySem.Spec PyProof.Rows
section
variable {X : Cx} {pins : List (Addr × Obj)} {σ : St} {s : Shared} {H : Hp}
/-- a pair is put into the new dict -/
theorem dT_put {D b : Addr} {kvs : List (List Key × V)} {k : List Key} {z : V} {r : Value} {Ex : Value → Shared → Prop} {Q : Unit → Shared → Prop} (hu : X.A.units + 1 < cLine) (I : Inv X pins σ H s) (at_ : H D = some (.dT kvs)) (room : kvs.length < sizeLine)
    (key : H b = some (.tup (k.map kV))) (rz : RelV z r) (fin : ∀ s1, Inv X pins σ (upd H D (.dT (putK kvs k z))) s1 → Q () s1) : wpAny (model X.prog X.w) X.A (dictSet D (.ref b) r) Q Ex s := by
  obtain ⟨l0, sys, xs, rel, dd⟩ := dt_of I.hok at_
  have l1 : xs.length ≤ sizeLine := Paired.length rel ▸ l0
  have l2 : (putK kvs k z).length ≤ sizeLine := Nat.le_trans (length_putK kvs k z) room
  refine wpAny_dictSet_heap (hsz := l1) (show X.A.units < cLine from Nat.lt_of_succ_lt hu) (key_of I.hok key) dd fun h1 dd1 sb => fin _ ?_
  obtain ⟨q, es, ep, hq, e2, e3, e4, _, e5⟩ := dd1
  exact d_write I (at_ ▸ True.intro) sb ⟨q, hq⟩ ⟨l2, sys, _, (rel.put k key rz).keeps fun c ys ec => (upd_ne (ne_of ec at_ fun z => nomatch z)).trans ec, q, es, ep, hq, e2, e3, e4, e5⟩
/-- {k: v for target in iter if ..}, the keys tuples: D is the new dict -/
def tDcT (wi : TI) (g : TG) (tt : TT) (tk tv : TE) (vs : List Nat) : TE := fun σ H Q => wi σ H fun J H1 => ∀ D, H1 D = none →
  ∃ W : Nat → Nat → Hp → Prop, (∃ m, W 0 m (upd H1 D (.dT []))) ∧ ∀ i m H, W i m H → (J.stop i H ∧ Q (.ref D) H) ∨
    (J.go i H ∧ ∃ Nx : Hp → Prop, (∀ H', Nx H' → ∃ m', m' < m ∧ W (i + 1) m' H') ∧ ∀ x H', J.yld i H x H' → g x (wipe σ vs) H' fun σ2 H2 => wipe σ2 vs = wipe σ vs ∧ tt σ2 H2 fun b H3 =>
      if b = true then tk σ2 H3 fun y H4 => tv σ2 H4 fun z H5 => ∃ (kvs : List (List Key × V)) (k : List Key) (kb : Addr), y = .ref kb ∧ H5 kb = some (.tup (k.map kV)) ∧ H5 D = some (.dT kvs) ∧ kvs.length < sizeLine ∧ Nx (upd H5 D (.dT (putK kvs k z))) else Nx H3)
theorem dcT_go {Q : VK} {kx vx tg iter : Expr} {ifs : List Expr} {scope : Scope} {own : List (Str × Nat)} {pos pos' : Pos} {wi : TI} {g : TG} {tt : TT} {tk tv : TE} {use : Option (Value → Sem Unit)} {Qf : Value → Shared → Prop} (hu : X.A.units + 1 < cLine)
    (calm : X.calm = true) (nd : X.N.Nodup) (I : Inv X pins σ H s) (walk : PI X tg iter wi) (blk : BlkOk X.N X.env.scope scope own)
    (target : ∀ (s : Shared) (H : Hp) (C : Addr) (cl : List (Str × Addr)) (fp : List Addr), PG (X.blk s H scope (compEnvC scope cl C X.env) fp) tg g)
    (tests : ∀ (s : Shared) (H : Hp) (C : Addr) (cl : List (Str × Addr)) (fp : List Addr), PTs (X.blk s H scope (compEnvC scope cl C X.env) fp) ifs tt)
    (keys : ∀ (s : Shared) (H : Hp) (C : Addr) (cl : List (Str × Addr)) (fp : List Addr), PE (X.blk s H scope (compEnvC scope cl C X.env) fp) kx tk)
    (vals : ∀ (s : Shared) (H : Hp) (C : Addr) (cl : List (Str × Addr)) (fp : List Addr), PE (X.blk s H scope (compEnvC scope cl C X.env) fp) vx tv) (same : ∀ x, foldedSetIterable iter X.env x = pure x)
    (h : tDcT wi g tt tk tv (own.map (·.2)) σ H Q)
    (post : ∀ D C s' m H', Inv X pins σ H' s' → Q (.ref D) H' → s'.heap.Ns C m → FpOk X pins H' C → compPost (model X.prog X.w) X.A X.xe use Qf (.ref D) C (.ok .next) s') :
    wpAny (model X.prog X.w) X.A (comprehension (.DictComp kx vx [⟨tg, iter, ifs, 0⟩] scope pos) scope X.env pos' newDict false (eval iter X.env) use) Qf X.xe s := by
  have cells : ∀ y ∈ scope.names, y.2 = .free → ∃ c, X.env.cells.lookup y.1 = some c := fun y hy e => (blk.free y hy e).elim (fun k => I.ok.has _ (.inl k)) fun k => I.ok.has _ (.inr k)
  refine wpAny_comprehension_free (use := use) rfl same (closure_ok cells) blk.kind (fun y hy e => by rw [blk.uniq y hy, e]) (thn (walk.run pins s σ H _ I h) fun xv s1 hx => thn hx fun itv s2 h2 => ?_)
  obtain ⟨it, fp, tn, J, H2, rfl, I2, T, st2, f2, q⟩ := h2
  refine wpAny_newObj_type (newEnv_comp (?_ : codeAny _ _ _ _ _))
  generalize eD : s2.heap.objs.size = D
  obtain ⟨W, ⟨m0, w0⟩, turn⟩ := q D (I2.hok.fresh (Nat.le_of_eq eD))
  generalize e3 : ({ s2 with heap := s2.heap.push { cls := .type "dict", data := .dict #[] } } : Shared) = s3
  have I3 : Inv X pins σ (upd H2 D (.dT [])) s3 := by
    subst e3 eD
    exact I2.laid (t' := s2.toks) (fun b o e => Heap.get?_push_of_some _ e) (Nat.le_refl _) (dt_empty s2.heap I2.big)
  have hp3 : s3.heap = s2.heap.push { cls := .type "dict", data := .dict #[] } := by rw [← e3]
  have f3 : ∀ b ∈ fp, FpOk X pins (upd H2 D (.dT [])) b ∧ b < s3.heap.objs.size := fun b hb => by
    obtain ⟨o, eo, _⟩ := T.obj _ _ st2 b hb
    have lt := Heap.lt_size eo
    exact ⟨⟨by rw [upd_ne (eD ▸ Nat.ne_of_lt lt)]; exact (f2 b hb).1, (f2 b hb).2⟩, by rw [hp3, Heap.size_push]; exact Nat.lt_succ_of_lt lt⟩
  have st3 : tn 0 s3.heap := T.keep _ _ _ st2 fun b _ o e => hp3 ▸ Heap.get?_push_of_some _ e
  have I4 := block_start I3 blk nd f3
  have pg := target s3 (upd H2 D (.dT [])) s3.heap.objs.size (cellsFrom (s3.heap.objs.size + 1) scope.names (cloFrom X.env.cells scope.names [])) fp
  have pt := tests s3 (upd H2 D (.dT [])) s3.heap.objs.size (cellsFrom (s3.heap.objs.size + 1) scope.names (cloFrom X.env.cells scope.names [])) fp
  have pk := keys s3 (upd H2 D (.dT [])) s3.heap.objs.size (cellsFrom (s3.heap.objs.size + 1) scope.names (cloFrom X.env.cells scope.names [])) fp
  have pz := vals s3 (upd H2 D (.dT [])) s3.heap.objs.size (cellsFrom (s3.heap.objs.size + 1) scope.names (cloFrom X.env.cells scope.names [])) fp
  show codeAny _ _ (.compStart (.DictComp kx vx [⟨tg, iter, ifs, 0⟩] scope pos) 0 (.ref it) (.ref D) (compEnvC scope (cellsFrom (s3.heap.objs.size + 1) scope.names (cloFrom X.env.cells scope.names [])) s3.heap.objs.size X.env))
    (compPost (model X.prog X.w) X.A X.xe use Qf (.ref D) s3.heap.objs.size) { s3 with heap := pushCells (s3.heap.push { cls := .type "dict", data := .dict #[] }) scope.names }
  have free3 : ∀ b ∈ fp, (upd H2 D (.dT [])) b = none := fun b hb => (f3 b hb).1.1
  generalize ec : compEnvC scope (cellsFrom (s3.heap.objs.size + 1) scope.names (cloFrom X.env.cells scope.names [])) s3.heap.objs.size X.env = ce at I4 pg pt pk pz ⊢
  have locs : ce.locals = s3.heap.objs.size := ec ▸ rfl
  generalize upd H2 D (.dT []) = H3 at I3 I4 pg pt pk pz w0 free3 f3
  generalize e4 : ({ s3 with heap := pushCells (s3.heap.push { cls := .type "dict", data := .dict #[] }) scope.names } : Shared) = s4 at I4 ⊢
  have st4 : tn 0 s4.heap := T.keep _ _ _ st3 fun b _ o e => e4 ▸ pushCells_keeps _ _ _ _ (Heap.get?_push_of_some _ e)
  have foot : ∀ {σ' : St} {H' : Hp} {s' : Shared}, Inv (X.blk s3 H3 scope ce fp) [] σ' H' s' → (∀ b ∈ fp, H' b = none) → ∀ b ∈ fp, FpOk (X.blk s3 H3 scope ce fp) [] H' b := fun {σ' H' s'} I' n b hb =>
    ⟨n b hb, (I'.ok.exf b hb).1, I'.ok.exfs b hb, .inl hb, fun x c e => (I'.ok.exf b hb).2 x c e, fun p hp => absurd (show p ∈ ([] : List (Addr × Obj)) ++ [] from hp) (by simp)⟩
  refine codeAny_compStart_dict ?_ (T.self X.A 0 _ _ _ st4 ?_)
  all_goals
    refine compLoop_anyD (fun n s' => ∃ i H', Inv (X.blk s3 H3 scope ce fp) [] (wipe σ (own.map (·.2))) H' s' ∧ tn i s'.heap ∧ (∀ b ∈ fp, H' b = none) ∧ W i n H') ?_ m0 ⟨0, H3, I4, st4, free3, w0⟩
    rintro n s5 ⟨i, H5, I5, st5, n5, w5⟩
    rcases turn i n H5 w5 with ⟨stop, qq⟩ | ⟨go, Nx, next, body⟩
    · refine thnF (T.done (X.blk s3 H3 scope ce fp) rfl rfl rfl calm i [] s5 _ H5 (fun _ _ => False) I5 (foot I5 n5) st5 stop) fun r s6 hr6 => ?_
      obtain ⟨rfl, I6⟩ := hr6
      have back : Inv X pins σ H5 s6 := I3.call' (ch := fp) I6.os I6.base I6.hok I6.bare fun b hb => ⟨(f3 b hb).1.2.2.2.1, (f3 b hb).1.2.1, (f3 b hb).1.2.2.2.2.1, (f3 b hb).1.2.2.2.2.2⟩
      obtain ⟨m, hm, _⟩ := I6.loc
      exact post D s3.heap.objs.size s6 m H5 back qq (locs ▸ (show s6.heap.Ns ce.locals m from hm)) (I3.fpOk (Nat.le_refl _) (locs ▸ (show H5 ce.locals = none from I6.free)))
    · refine thnF (T.item (X.blk s3 H3 scope ce fp) rfl rfl rfl calm i [] s5 _ H5 (fun _ _ => False) I5 (foot I5 n5) st5 go) fun r s6 hr6 => ?_
      obtain ⟨u, rfl, h6⟩ := hr6
      refine thnF h6 fun _ s7 ⟨x, H7, I7, r7, y7, st7, n7⟩ => ?_
      refine thnF (pg.run _ s7 _ H7 x u _ (I7.pinned (foot I7 n7) (T.obj _ _ st7)) r7 (body x H7 y7)) fun _ s8 ⟨σ8, H8, I8, hw8, q8⟩ => ?_
      refine thnF (pt.run _ s8 σ8 H8 _ I8 q8) fun b s9 ⟨H9, I9, q9⟩ => ?_
      have over : ∀ {s' : Shared} {H' : Hp}, Inv (X.blk s3 H3 scope ce fp) ([] ++ pinsAt fp s7.heap) σ8 H' s' → Nx H' →
          ∃ m, m < n ∧ ∃ i H', Inv (X.blk s3 H3 scope ce fp) [] (wipe σ (own.map (·.2))) H' s' ∧ tn i s'.heap ∧ (∀ b ∈ fp, H' b = none) ∧ W i m H' := fun {s' H'} I' nx => by
        obtain ⟨m', lt, w'⟩ := next H' nx
        have pin : ∀ b ∈ fp, ∀ o, s7.heap.get? b = some o → s'.heap.get? b = some o ∧ H' b = none := fun b hb o e => (I'.pin (b, o) (List.mem_append_right _ (List.mem_append_right _ (mem_pinsAt hb e)))).imp id And.left
        refine ⟨m', lt, i + 1, H', (I'.unpinned (pins := [])).weak (by rw [← hw8, wipe_length]) (fun j v e => (wipe_some (hw8 ▸ e)).1), T.keep _ _ _ st7 fun b hb o e => (pin b hb o e).1, fun b hb => ?_, w'⟩
        obtain ⟨o, e, _⟩ := T.obj _ _ st7 b hb
        exact (pin b hb o e).2
      cases b with
      | false => exact over I9 q9
      | true =>
        refine thnF (pk.run _ s9 σ8 H9 _ I9 q9) fun z s10 ⟨yk, H10, I10, r10, q10⟩ => ?_
        refine thnF (pz.run _ s10 σ8 H10 _ I10 q10) fun z2 s11 ⟨yv, H11, I11, r11, kvs, k, kb, ek, key, at_, room, nx⟩ => ?_
        subst ek
        cases (show z = Value.ref kb from r10)
        exact dT_put (X := X.blk s3 H3 scope ce fp) hu I11 at_ room key r11 fun s12 I12 => over I12 nx
/-- as a value -/
theorem pe_dcT {kx vx tg iter : Expr} {ifs : List Expr} {scope : Scope} {own : List (Str × Nat)} {pos : Pos} {wi : TI} {g : TG} {tt : TT} {tk tv : TE} (hu : X.A.units + 1 < cLine) (calm : X.calm = true) (nd : X.N.Nodup) (walk : PI X tg iter wi) (blk : BlkOk X.N X.env.scope scope own)
    (target : ∀ (s : Shared) (H : Hp) (C : Addr) (cl : List (Str × Addr)) (fp : List Addr), PG (X.blk s H scope (compEnvC scope cl C X.env) fp) tg g)
    (tests : ∀ (s : Shared) (H : Hp) (C : Addr) (cl : List (Str × Addr)) (fp : List Addr), PTs (X.blk s H scope (compEnvC scope cl C X.env) fp) ifs tt)
    (keys : ∀ (s : Shared) (H : Hp) (C : Addr) (cl : List (Str × Addr)) (fp : List Addr), PE (X.blk s H scope (compEnvC scope cl C X.env) fp) kx tk)
    (vals : ∀ (s : Shared) (H : Hp) (C : Addr) (cl : List (Str × Addr)) (fp : List Addr), PE (X.blk s H scope (compEnvC scope cl C X.env) fp) vx tv) (same : ∀ x, foldedSetIterable iter X.env x = pure x := by intro _; rfl) :
    PE X (.DictComp kx vx [⟨tg, iter, ifs, 0⟩] scope pos) (tDcT wi g tt tk tv (own.map (·.2))) :=
  ⟨fun pins s σ H Q I h => by
    rw [arm_eval_DictComp]
    exact dcT_go hu calm nd I walk blk target tests keys vals same h fun D C s' m H' I' q hn ⟨f0, f1, f2, f3, f4, f5⟩ => ⟨m, hn, fun h'' sb => ⟨.ref D, H', I'.turned (t' := s'.toks) (fun b o hb e => (sb.2 b hb).trans e) f0 f1 f3 f4 f5, rfl, q⟩⟩⟩
/-- x = {..}: the new dict is bound before the block's frame goes -/
theorem ps_setDcT {i : Nat} {y : Str} {py : Pos} {kx vx tg iter : Expr} {ifs : List Expr} {scope : Scope} {own : List (Str × Nat)} {pos spos : Pos} {wi : TI} {g : TG} {tt : TT} {tk tv : TE} (hu : X.A.units + 1 < cLine) (calm : X.calm = true) (nd : X.N.Nodup) (at_ : X.N[i]? = some y) (loc : X.env.scope.names.lookup y = some .local)
    (swap : swapsWith (.DictComp kx vx [⟨tg, iter, ifs, 0⟩] scope pos) (some (.Name y py)) spos.line X.env = pure true) (walk : PI X tg iter wi) (blk : BlkOk X.N X.env.scope scope own)
    (target : ∀ (s : Shared) (H : Hp) (C : Addr) (cl : List (Str × Addr)) (fp : List Addr), PG (X.blk s H scope (compEnvC scope cl C X.env) fp) tg g)
    (tests : ∀ (s : Shared) (H : Hp) (C : Addr) (cl : List (Str × Addr)) (fp : List Addr), PTs (X.blk s H scope (compEnvC scope cl C X.env) fp) ifs tt)
    (keys : ∀ (s : Shared) (H : Hp) (C : Addr) (cl : List (Str × Addr)) (fp : List Addr), PE (X.blk s H scope (compEnvC scope cl C X.env) fp) kx tk)
    (vals : ∀ (s : Shared) (H : Hp) (C : Addr) (cl : List (Str × Addr)) (fp : List Addr), PE (X.blk s H scope (compEnvC scope cl C X.env) fp) vx tv) (same : ∀ x, foldedSetIterable iter X.env x = pure x := by intro _; rfl) :
    PS X (.Assign [.Name y py] (.DictComp kx vx [⟨tg, iter, ifs, 0⟩] scope pos) spos) (tAsg (tDcT wi g tt tk tv (own.map (·.2))) (gName i)) := by
  refine ⟨fun pins s σ H D I h => ?_⟩
  rw [exec_Assign_Name_used _ _ _ _ swap]
  have h : tDcT wi g tt tk tv (own.map (·.2)) σ H (fun x H1 => gName i x σ H1 D.nx) := h
  have go := dcT_go (pos := pos) (pos' := firstIterPos [⟨tg, iter, ifs, 0⟩] pos) (use := some (assign (.Name y py) X.env)) (Qf := fun _ s' => SP X pins D .next s') hu calm nd I walk blk target tests keys vals same h fun L C s' m H' I' q hn ⟨f0, f1, f2, f3, f4, f5⟩ =>
    show wpAny _ _ (assign (.Name y py) X.env (.ref L)) _ _ _ from wpAny_assign_Name (store_ok2 (v := V.ref L) I' nd at_ (.inl loc) rfl (fun s2 I2 ⟨a, sb, ha⟩ => ⟨m, hn.sameBut sb (ha.elim (fun z => z ▸ f1) fun z e => f4 y a z e.symm), fun h3 sb3 =>
      ⟨_, H', I2.turned (t' := s2.toks) (fun b o hb e => (sb3.2 b hb).trans e) f0 f1 f3 f4 f5, q⟩⟩) (.inr loc))
  exact wpAny_bind (wpAny_standAt (wpAny_bind (wpAny_bind (thn go fun _ s' hq => wpAny_pure (wpAny_pure hq)))))
theorem sw_dict {kx vx : Expr} {gs : List Comprehension} {scope : Scope} {pos py : Pos} {y : Str} {l : Nat} {env : Env} (kind : env.scope.kind = .function) (loc : env.scope.names.lookup y = some .local) (line : (py.line == pos.line) = true)
    (off : (scope.names.any fun (n, k) => n == y && (k == .local || k == .cell)) = false) : swapsWith (.DictComp kx vx gs scope pos) (some (.Name y py)) l env = pure true := by
  have e1 : env.kindOf y = some .local := loc
  have e2 : env.blockKind = .function := by rw [Env.blockKind, kind]; rfl
  simp only [swapsWith, e2, e1, off, Expr.pos, line]
  rfl
/-- {k: v}, the key a tuple -/
def tDisp1T (tk tv : TE) : TE := fun σ H Q => ∀ p, H p = none → tk σ (upd H p (.dT [])) fun y H1 => tv σ H1 fun z H2 => ∃ (kb : Addr) (ks : List Key), y = .ref kb ∧ H2 kb = some (.tup (ks.map kV)) ∧ H2 p = some (.dT []) ∧ Q (.ref p) (upd H2 p (.dT [(ks, z)]))
theorem pe_disp1T {k v : Expr} {pos : Pos} {tk tv : TE} (hu : X.A.units + 1 < cLine) (hk : PE X k tk) (hv : PE X v tv) : PE X (.Dict [some k] [v] pos) (tDisp1T tk tv) := by
  refine ⟨fun pins s σ H Q I h => wpAny_Dict_any rfl rfl (by simp) (by show 1 ≤ 15; decide) ?_⟩
  have new := I.hok.fresh (Nat.le_refl s.heap.objs.size)
  have I1 := I.laid (a := s.heap.objs.size) (o := .dT []) (h' := s.heap.push { cls := .type "dict", data := .dict #[] }) (t' := s.toks) (fun _ _ q => Heap.get?_push_of_some _ q) (Nat.le_refl _) (dt_empty s.heap I.big)
  refine pairTrees_cons_walk (thn (hk.run pins _ σ _ _ I1 (h _ new)) fun u s1 ⟨y, H1, I2, ry, q1⟩ => thn (hv.run pins s1 σ H1 _ I2 q1) fun w2 s2 ⟨z, H2, I3, rz, kb, ks, ey, key, at_, q2⟩ => pairTrees_nil_walk ?_)
  subst ey
  cases (show u = Value.ref kb from ry)
  unfold storeAll
  rw [List.forIn_cons]
  exact wpAny_bind (wpAny_bind (dT_put hu I3 at_ (by decide) key rz fun s3 I4 => wpAny_pure (wpAny_pure ⟨.ref _, _, I4, rfl, q2⟩)))
/-- over any walk -/
theorem dcT_it {J : It} {n : Nat} {G : Hp → Prop} {Y : Nat → Hp → V → Hp → Prop} (w : Walk J n G Y) {g : TG} {tt : TT} {tk tv : TE} {vs : List Nat} {σ : St} {H1 : Hp} {D : Addr} {Qd : Hp → Prop} (Pv : Nat → Hp → Prop) (h0 : Pv 0 (upd H1 D (.dT []))) (hG : ∀ i H, i ≤ n → Pv i H → G H)
    (hs : ∀ i x H H', i < n → Pv i H → Y i H x H' → g x (wipe σ vs) H' fun σ2 H2 => wipe σ2 vs = wipe σ vs ∧ tt σ2 H2 fun b H3 =>
      if b = true then tk σ2 H3 fun y H4 => tv σ2 H4 fun z H5 => ∃ (kvs : List (List Key × V)) (k : List Key) (kb : Addr), y = .ref kb ∧ H5 kb = some (.tup (k.map kV)) ∧ H5 D = some (.dT kvs) ∧ kvs.length < sizeLine ∧ Pv (i + 1) (upd H5 D (.dT (putK kvs k z))) else Pv (i + 1) H3)
    (hd : ∀ H, Pv n H → Qd H) : ∃ W : Nat → Nat → Hp → Prop, (∃ m, W 0 m (upd H1 D (.dT []))) ∧ ∀ i m H, W i m H → (J.stop i H ∧ Qd H) ∨
      (J.go i H ∧ ∃ Nx : Hp → Prop, (∀ H', Nx H' → ∃ m', m' < m ∧ W (i + 1) m' H') ∧ ∀ x H', J.yld i H x H' → g x (wipe σ vs) H' fun σ2 H2 => wipe σ2 vs = wipe σ vs ∧ tt σ2 H2 fun b H3 =>
        if b = true then tk σ2 H3 fun y H4 => tv σ2 H4 fun z H5 => ∃ (kvs : List (List Key × V)) (k : List Key) (kb : Addr), y = .ref kb ∧ H5 kb = some (.tup (k.map kV)) ∧ H5 D = some (.dT kvs) ∧ kvs.length < sizeLine ∧ Nx (upd H5 D (.dT (putK kvs k z))) else Nx H3) := by
  refine ⟨fun i m H => m + i = n ∧ Pv i H, ⟨n, rfl, h0⟩, fun i m H ⟨e, p⟩ => ?_⟩
  cases m with
  | zero =>
    obtain rfl : i = n := by omega
    exact .inl ⟨w.stops H (hG i H (Nat.le_refl i) p), hd H p⟩
  | succ m =>
    have lt : i < n := by omega
    have g1 := hG i H (Nat.le_of_lt lt) p
    exact .inr ⟨w.goes i H lt g1, Pv (i + 1), fun H' p' => ⟨m, Nat.lt_succ_self m, by omega, p'⟩, fun x H' y => hs i x H H' lt p (w.yields i H x H' lt g1 y)⟩
end
end L2
set_option Elab.async false
set_option linter.all false
set_option maxRecDepth 100000
set_option maxHeartbeats 2000000
namespace PySem
open Sem (wp)
open AutoSeq1 (wpAny_loadPart')
theorem meets_enumerate_newT (l : Addr) (items : Array Value) (n : Nat) (dct : Option Addr) (sl : Array (Option Value)) :
    Meets (Builtin.«enumerate.__new__» ⟨[.type "enumerate", .ref l], []⟩) (fun _ R s => s.heap.get? l = some { cls := .type "tuple", dict := dct, data := .seq items n, slots := sl } ∧
      R (.ok (.ret (.ref (s.heap.push { cls := .type "tuple_iterator", data := .fields #[.ref l, .int 0 0] }).objs.size)))
        { s with heap := (s.heap.push { cls := .type "tuple_iterator", data := .fields #[.ref l, .int 0 0] }).push { cls := .type "enumerate", data := .fields #[.none, .bool false, .ref s.heap.objs.size, rawInt 0, .none, .none] } }) :=
  .of_wp fun prog w A R s h => by
    obtain ⟨hp, g, d, tk, os⟩ := s; obtain ⟨hl, h⟩ := h
    have hsub := sub_enumerate
    have hL : Heap.IsTuple (Shared.heap ⟨hp, g, d, tk, os⟩) l items := ⟨_, hl, rfl, n, rfl⟩
    wp_walk using wpAny_loadPart' hl
    refine wpAny_stack_any fun st => wpAny_pure ?_
    split
    · rename_i c _ _ _ _ _
      cases (c == Value.type "enumerate")
      · wp_walk using wpAny_loadPart' hl, wpAny_pyIter_tuple hL
        exact ⟨_, rfl, h⟩
      · wp_walk using wpAny_loadPart' hl, wpAny_pyIter_tuple hL
        exact ⟨_, rfl, h⟩
    · wp_walk using wpAny_loadPart' hl, wpAny_pyIter_tuple hL
      exact ⟨_, rfl, h⟩
section
variable {prog : Program} {w : World} {A : Around} {E : Value → Shared → Prop} {s : Shared}
theorem call_enumerate_tuple {l : Addr} {items : Array Value} {Q : Value → Shared → Prop} (hL : s.heap.IsTuple l items)
    (h : ∀ h', IsEnum h' (s.heap.objs.size + 1) s.heap.objs.size 0 .none → h'.IsTupleIter s.heap.objs.size l 0 → h'.objs.size = s.heap.objs.size + 2 →
      (∀ b o, s.heap.get? b = some o → h'.get? b = some o) → Q (.ref (s.heap.objs.size + 1)) { s with heap := h' }) :
    wpAny (model prog w) A (call (.type "enumerate") [.ref l]) Q E s := by
  obtain ⟨⟨c, dct, dt, sl⟩, hl, hc, n, hd⟩ := hL
  replace hc : c = .type "tuple" := hc
  replace hd : dt = .seq items n := hd
  subst hc hd
  refine callType_new F.called_enumerate (by decide) (F.typeCall_enumerate_1 _) (F.newCall_enumerate_1 _) (fun obj => F.args_object_init_2 obj _) F.entry_enumerate_new
    (meets_enumerate_newT l items n dct sl) ⟨hl, ?_⟩
  have hz : (s.heap.push { cls := .type "tuple_iterator", data := .fields #[.ref l, .int 0 0] }).objs.size = s.heap.objs.size + 1 := Heap.size_push ..
  show _ ∧ _
  rw [hz]
  have he : IsEnum ((s.heap.push { cls := .type "tuple_iterator", data := .fields #[.ref l, .int 0 0] }).push
      { cls := .type "enumerate", data := .fields #[.none, .bool false, .ref s.heap.objs.size, rawInt 0, .none, .none] }) (s.heap.objs.size + 1) s.heap.objs.size 0 .none := by
    have := Heap.get?_push_size (s.heap.push { cls := .type "tuple_iterator", data := .fields #[.ref l, .int 0 0] })
      (o := { cls := .type "enumerate", data := .fields #[.none, .bool false, .ref s.heap.objs.size, rawInt 0, .none, .none] }) rfl
    rw [hz] at this; exact this
  refine ⟨⟨_, he, rfl⟩, h _ he ⟨_, Heap.get?_push_of_some _ (Heap.get?_push_size _ rfl), rfl, rfl⟩ (by rw [Heap.size_push, hz]) fun b o x => Heap.get?_push_of_some _ (Heap.get?_push_of_some _ x)⟩
end
end PySem
namespace L2
open PySem PySem.Spec PyProof.Rows
/-- the tuple at a, each item in a new pair -/
def IteT (K : PySem.W.Frag) (a : Addr) : It :=
  ⟨fun i H => ∃ (xs : List V) (x : V), SqT K H a xs ∧ xs[i]? = some x, fun i H v H' => ∃ T x, v = .ref T ∧ H T = none ∧ H' = upd H T (.tup [.int (i : Nat), x]) ∧ ∀ xs, SqT K H a xs → xs[i]? = some x, fun i H => ∃ xs : List V, SqT K H a xs ∧ xs.length = i⟩
theorem turn_enumT {P : Program} {w : World} {K : PySem.W.Frag} {elts : List Expr} {kk : Nat} {tpos : Pos} (a e it : Addr) :
    Turn P w K (.Tuple elts kk tpos) (IteT K a) [e, it] e (fun i h => (∃ old, IsEnum h e it ((i : Nat) : Int) old) ∧ h.IsTupleIter it a i ∧ e ≠ it ∧ a ≠ it ∧ a ≠ e) where
  mem := by simp
  obj := fun i h st b hb => by
    obtain ⟨⟨old, he⟩, ⟨o, ho, hc, hd⟩, _⟩ := st
    have e' : b = e ∨ b = it := by simpa using hb
    rcases e' with z | z
    · rw [z]; exact ⟨_, he, fun v q => nomatch q⟩
    · rw [z]; exact ⟨o, ho, fun v q => by rw [hd] at q; cases q⟩
  keep := fun i h h' st k => let ⟨⟨old, he⟩, ⟨o, ho, hr⟩, hne⟩ := st; ⟨⟨old, k e (by simp) _ he⟩, ⟨o, k it (by simp) _ ho, hr⟩, hne⟩
  item := by
    intro X hP hw hK hc i pins s σ H E I hf st hg
    subst hP hw hK
    obtain ⟨⟨old, he⟩, hit, hne, hai, hae⟩ := st
    obtain ⟨xs, x, hq, hx⟩ := hg
    obtain ⟨its, rv, p, hz⟩ := I.tuple hq
    obtain ⟨u, hu, ru⟩ := rv.get hx
    have hel : e < s.heap.objs.size := Heap.lt_size he
    have hil : it < s.heap.objs.size := by obtain ⟨_, q, _⟩ := hit; exact Heap.lt_size q
    have hu' : its.toArray[i]? = some u := by simpa using hu
    have hlt : i < its.toArray.size := by
      rcases Nat.lt_or_ge i its.toArray.size with h | h
      · exact h
      · rw [Array.getElem?_eq_none h] at hu'; cases hu'
    refine wpAny_pyNext_enum_itemD (Draws.tuple (A := X.A.in1) (I.ok.hd hc) it a hai its.toArray) he ⟨hit, p⟩ hlt hne (by simp [hne, Ne.symm hae]) fun v h' tk hv ho hst hT hsz hk => ?_
    obtain rfl : v = u := by
      rw [hu'] at hv
      exact (Option.some.inj hv).symm
    refine ⟨_, rfl, wpAny_letOwnedTupleGo_enum (s := { s with heap := h', toks := tk + 1 }) ho fun h'' he' sb => ?_⟩
    have hT2 : h''.get? s.heap.objs.size = some { cls := .type "tuple", data := .seq #[.int i tk, v] } := (sb.2 _ (Nat.ne_of_gt hel)).trans hT
    have new : ObjOk X.prog X.w (upd H s.heap.objs.size (.tup [.int (i : Nat), x])) h'' s.heap.objs.size (.tup [.int (i : Nat), x]) :=
      ⟨by show 2 ≤ sizeLine; decide, [.int i tk, v], .cons ⟨_, rfl⟩ (.cons ru .nil), ⟨_, hT2, rfl, _, rfl⟩⟩
    have I1 : Inv X pins σ (upd H s.heap.objs.size (.tup [.int (i : Nat), x])) { s with heap := h'', toks := tk + 1 } :=
      I.turnedNew (ch := [e, it]) (fun b ob hb q => (sb.2 b (fun z => hb (by simp [z]))).trans (hk b ob (fun z => hb (by simp [z])) (fun z => hb (by simp [z])) q)) hf (Nat.le_refl _) new
    refine ⟨.ref s.heap.objs.size, _, I1, rfl, ⟨_, x, rfl, I.hok.fresh (Nat.le_refl _), rfl, fun ys hy => by rw [I.tuple_inj hy hq]; exact hx⟩, ⟨⟨v, ?_⟩, ?_, hne, hai, hae⟩, fun b hb => ?_⟩
    · have e1 : ((i + 1 : Nat) : Int) = (i : Int) + 1 := by omega
      rw [e1]; exact he'
    · obtain ⟨o, ho2, hr⟩ := hst.1
      exact ⟨o, (sb.2 it (Ne.symm hne)).trans ho2, hr⟩
    · have hb' : b < s.heap.objs.size := by
        have e' : b = e ∨ b = it := by simpa using hb
        rcases e' with z | z
        · rw [z]; exact hel
        · rw [z]; exact hil
      rw [upd_ne (Nat.ne_of_lt hb')]
      exact (hf b hb).1
  done := by
    intro X hP hw hK hc i pins s σ H E I hf st hg
    subst hP hw hK
    obtain ⟨⟨old, he⟩, hit, hne, hai, hae⟩ := st
    obtain ⟨xs, hq, hx⟩ := hg
    obtain ⟨its, rv, p, hz⟩ := I.tuple hq
    obtain ⟨f0, f1, f2, f3, f4, f5⟩ := hf it (by simp)
    have hl := rv.length
    have hi : i = its.toArray.size := by rw [List.size_toArray]; omega
    subst hi
    exact wpAny_pyNext_enum_endD (Draws.tuple (A := X.A.in1) (I.ok.hd hc) it a hai its.toArray) he ⟨hit, p⟩ fun h' eb => ⟨rfl, I.turned (t' := s.toks) (fun b o hb q => eb b o hb q) f0 f1 f3 f4 f5⟩
  self := fun A i s Q E st h => let ⟨⟨_, he⟩, _⟩ := st; wpAny_pyIter_enum he h
def iEnumT (K : PySem.W.Frag) (ta : TA) : TI := fun σ H R => ta σ H fun vs H1 => ∃ a xs, vs = [.ref a] ∧ SqT K H1 a xs ∧ R (IteT K a) H1
theorem pi_enumT {X : Cx} {e : Expr} {ta : TA} {p pos tpos : Pos} {elts : List Expr} {kk : Nat} (hg : Gl X "enumerate") (hm : X.mg "enumerate" = none) (ha : PA X [e] ta) (hs : starEach [e] X.env = [(false, eval e X.env)] := by rfl) :
    PI X (.Tuple elts kk tpos) (.Call (.Name "enumerate" p) [e] [] pos) (iEnumT X.K ta) := by
  refine ⟨fun pins s σ H R I h => ?_⟩
  refine Call_ (ld_blt I hg hm boot_enumerate (PyProof.Rows.callWith_type1 (thn (ha.run pos pins s σ H _ I h) fun us s1 ⟨vs, H1, I1, r1, q1⟩ => ?_) hs rfl))
  obtain ⟨a, xs, ex, hq, q⟩ := q1
  subst ex
  cases r1 with
  | cons r rr =>
    cases rr
    cases r
    obtain ⟨its, rv, p', hz⟩ := I1.tuple hq
    have hal : a < s1.heap.objs.size := by obtain ⟨_, q, _⟩ := p'; exact Heap.lt_size q
    refine call_enumerate_tuple p' fun h' he hit hsz hk => wpAny_pyIter_enum he ?_
    have I2 : Inv X pins σ H1 { s1 with heap := h' } := I1.kept (t' := s1.toks) hk
    refine ⟨s1.heap.objs.size + 1, [s1.heap.objs.size + 1, s1.heap.objs.size], _, _, H1, rfl, I2, turn_enumT a (s1.heap.objs.size + 1) s1.heap.objs.size, ⟨⟨.none, he⟩, hit, Nat.succ_ne_self _, Nat.ne_of_lt hal, Nat.ne_of_lt (Nat.lt_succ_of_lt hal)⟩, fun b hb => ?_, q⟩
    have e' : b = s1.heap.objs.size + 1 ∨ b = s1.heap.objs.size := by simpa using hb
    have hle : s1.heap.objs.size ≤ b := by
      rcases e' with z | z
      · rw [z]; exact Nat.le_add_right _ _
      · rw [z]; exact Nat.le_refl _
    exact I1.fpOk hle (I1.hok.fresh hle)
/-- over a list or a tuple, whichever it is -/
theorem pi_or {X : Cx} {tg e : Expr} {i1 i2 : TI} (h1 : PI X tg e i1) (h2 : PI X tg e i2) : PI X tg e (fun σ H R => i1 σ H R ∨ i2 σ H R) := by
  refine ⟨fun pins s σ H R I h => ?_⟩
  rcases h with h | h
  · exact h1.run pins s σ H R I h
  · exact h2.run pins s σ H R I h
end L2
set_option Elab.async false
set_option linter.all false
set_option maxRecDepth 100000
set_option maxHeartbeats 2000000
/-! promises of defs that are called where no repr is under way; the end of a law with tables of code objects -/
namespace Y
open PySem PySem.Spec PyProof.Rows L2 LamX
/-- FnOk where no repr is under way -/
structure FnG (P : Program) (w : World) (K : PySem.W.Frag) (mg : Str → Option Value) (base : Heap) (CX : CXT) (k : Nat) (f : Addr) (fd : FuncData) (ps : List Str) (sp : Sp) : Prop where
  len : ∀ vs H Q E, sp vs H Q E → vs.length = ps.length
  go : ∀ (A : Around) (outer : List Env) (s : Shared) (H : Hp) (args : Args) (us : List Value) (vs : List V) (Q : VK) (E : XK), A.guards = some [] → Room k A → Env0 P w K mg base A outer s H → BindsTo s fd args (ps.zip us) →
    Vals vs us → sp vs H Q E → codeAny (model P w) A (.call (.ref f) args) (CR CX outer P w H s Q E) s
section
variable {P : Program} {w : World} {K : PySem.W.Frag} {mg : Str → Option Value} {base : Heap} {CX : CXT}
theorem FnG.of {k : Nat} {f : Addr} {fd : FuncData} {ps : List Str} {sp : Sp} (F : FnOk P w K mg base CX k f fd ps sp) : FnG P w K mg base CX k f fd ps sp := ⟨F.len, fun A outer s H args us vs Q E _ => F.run A outer s H args us vs Q E⟩
/-- a def by its body -/
theorem okG {x qual : Str} {st : Stmt} {f : Addr} {fd : FuncData} {N ps : List Str} {k : Nat} {sp : Sp} (F : Fun K x qual st f fd) (S : FnScope N ps (defScope st)) (len : ∀ vs H Q E, sp vs H Q E → vs.length = ps.length)
    (body : ∀ (cdv : Value) (A : Around) (outer : List Env) (s : Shared) (H : Hp) (vs : List V) (Q : VK) (E : XK), A.guards = some [] → Room k (A.deeper (envOfC qual (defScope st) s.heap.objs.size f cdv)) → sp vs H Q E →
      ∃ t, PSs (cxOf CX0 P w K mg base N qual (defScope st) f cdv A outer s H E).nox (defBody st) t ∧ t { nx := fun _ H' => Q .non H', rt := Q } (L2.start N vs) H) : FnG P w K mg base CX0 (k + 1) f fd ps sp := by
  obtain ⟨oc, od, kV, doc, pm, an, cdv, ct, osl, rfl, lk, hcd⟩ := F.ex
  refine ⟨len, fun A outer s H args us vs Q E hg hr e0 hb r q => run_ofS lk hcd S hr e0 hb r (len _ _ _ _ q) fun hr' => ?_⟩
  obtain ⟨t, h1, h2⟩ := body cdv A outer s H vs Q E hg hr' q
  exact ⟨t, h1.nox, h2⟩
end
section
variable {X : Cx} {CX : CXT} {k : Nat} {f : Addr} {fd : FuncData} {ps : List Str} {sp : Sp} {E : XK} {x : Str} {p pos : Pos} {e : Expr} {es : List Expr} {t : TA}
theorem pe_callG (hG : X.A.guards = some []) (F : FnG X.prog X.w X.K X.mg X.base CX k f fd ps sp) (hr : Room k X.A) (gl : Gl X x) (at_ : X.mg x = some (.ref f)) (kp : PySem.W.keepIn X.K (.ref f) = true) (bd : Binds X.K fd ps []) (hx : Passes CX X E) (ha : PA X (e :: es) t)
    (db : (x == ("__debug__" : Str)) = false := by decide) (st : starEach (e :: es) X.env = (false, eval e X.env) :: starEach es X.env := by rfl) (pl : (backTo pos (starEach (e :: es) X.env)).tail.any (·.1) = false := by rfl) :
    PE X (.Call (.Name x p) (e :: es) [] pos) (tCall sp [] E t) := by
  refine ⟨fun pins s σ H Q I h => wpAny_Call_Name_kw (ld_glob I gl at_ (PySem.W.callWith_K (h₀ := X.base) I.ok.mod.kin kp (thn (ha.run pos pins s σ H _ I h) fun us s1 ⟨vs, H1, I1, r, q⟩ => ⟨I1.kIn, ?_⟩) st ?_) db)⟩
  · have q' : sp vs H1 Q E := (List.append_nil vs) ▸ (show sp (vs ++ []) H1 Q E from q)
    have hl : (us ++ ([] : List Value)).length = ps.length := by rw [List.append_nil, ← r.length]; exact F.len _ _ _ _ q'
    have bt := bd s1 us I1.kIn hl
    rw [List.append_nil] at bt
    refine wpAny_call (codeAny_mono (F.go X.A X.stack s1 H1 ⟨us, []⟩ us vs Q E hG hr I1.env0 bt r q') fun res s' hq => ?_)
    match res, hq with
    | .error e, hq => exact hx pins σ H1 s1 e s' I1 hq
    | .ok (.ret u), hq => exact I1.after hq
    | .ok .next, hq => exact hq.elim
    | .ok .brk, hq => exact hq.elim
    | .ok .cont, hq => exact hq.elim
  · rw [st] at pl
    exact pl
end
end Y
set_option Elab.async false
set_option linter.all false
set_option maxRecDepth 100000
set_option maxHeartbeats 4000000
namespace Y
open PySem PySem.Spec PyProof.Rows L2 LamX
/-- a def by its body, its code object known -/
theorem okGc {P : Program} {w : World} {K : PySem.W.Frag} {mg : Str → Option Value} {base : Heap} {x qual : Str} {st : Stmt} {f c : Addr} {fd : FuncData} {N ps : List Str} {k : Nat} {sp : Sp} (F : Fun K x qual st f fd) (hc : fd.code = .ref c) (S : FnScope N ps (defScope st)) (len : ∀ vs H Q E, sp vs H Q E → vs.length = ps.length)
    (body : ∀ (A : Around) (outer : List Env) (s : Shared) (H : Hp) (vs : List V) (Q : VK) (E : XK), A.guards = some [] → Room k (A.deeper (envOfC qual (defScope st) s.heap.objs.size f (.ref c))) → sp vs H Q E →
      ∃ t, PSs (cxOf CX0 P w K mg base N qual (defScope st) f (.ref c) A outer s H E).nox (defBody st) t ∧ t { nx := fun _ H' => Q .non H', rt := Q } (L2.start N vs) H) : FnG P w K mg base CX0 (k + 1) f fd ps sp := by
  obtain ⟨oc, od, kV, doc, pm, an, cdv, ct, osl, rfl, lk, hcd⟩ := F.ex
  have hc : cdv = .ref c := hc
  subst hc
  refine ⟨len, fun A outer s H args us vs Q E hg hr e0 hb r q => run_ofS lk hcd S hr e0 hb r (len _ _ _ _ q) fun hr' => ?_⟩
  obtain ⟨t, h1, h2⟩ := body A outer s H vs Q E hg hr' q
  exact ⟨t, h1.nox, h2⟩
end Y
set_option Elab.async false
set_option linter.all false
set_option maxRecDepth 100000
set_option maxHeartbeats 2000000
/-! the end of a law whose promise is an FnG: tables of code objects, the script -/
namespace Y
open PySem PySem.Spec PyProof.Rows L2 LamX
/-- what is tracked when the law begins: the tables, empty; the script, if it is no object of the written part -/
def hp0 (ts : List Addr) (sc : Addr → Option HO) : Hp := fun b => if b ∈ ts then some (.tbl #[]) else sc b
theorem hp0_tab {ts : List Addr} {sc : Addr → Option HO} {b : Addr} (h : b ∈ ts) : hp0 ts sc b = some (.tbl #[]) := if_pos h
theorem hp0_off {ts : List Addr} {sc : Addr → Option HO} {b : Addr} (h : b ∉ ts) : hp0 ts sc b = sc b := if_neg h
section
variable {P : Program} {w : World} {K : PySem.W.Frag} {mg mb : Str → Option Value} {k : Nat} {fa a : Addr} {cs : List (Addr × Addr)} {fd : FuncData} {x : Str} {sp : Sp} {s₁ : Shared} {vs : List Value} {ns : List Int}
/-- the tables' addresses -/
abbrev tabs (cs : List (Addr × Addr)) : List Addr := cs.map Prod.snd
theorem mem_tabs {p : Addr × Addr} (h : p ∈ cs) : p.2 ∈ tabs cs := List.mem_map.mpr ⟨p, h, rfl⟩
/-- what the heap tells that H does not track stands in the base -/
theorem base_ns {H : Hp} {b : Addr} {m : Str → Option Value} (nod : ∀ b o es ep, s₁.heap.get? b = some o → o.data = .dict es ep → H b = none) (h : s₁.heap.Ns b m) : (hidT s₁.heap H).Ns b m := by
  obtain ⟨o, es, ep, e, d, r⟩ := h
  exact ⟨o, es, ep, hidT_get e (nod b o es ep e d), d, r⟩
theorem law_runG (sc : Addr → Option HO)
    (hsc : ∀ b, sc b = none ∨ (b = a ∧ K.lookup a = none ∧ sc b = some (.frz { cls := .type "list", data := .seq vs.toArray } (.lst (ns.map V.int))))) (hS : SqL K (hp0 (tabs cs) sc) a (ns.map V.int))
    (KX : K.In s₁.heap) (hns : s₁.heap.Ns mainGlobals mg) (hb : s₁.heap.Ns builtinsNs mb) (hbb : ∀ x : Str, x ≠ "__name__" → mb x = bootBuiltins x) (hlim : s₁.heap.NoLimit) (hg : s₁.gens = #[])
    (hT : ∀ p ∈ cs, s₁.heap.get? p.2 = some { cls := .none, data := .fields #[] }) (nT : ∀ p ∈ cs, K.lookup p.2 = none) (C : ∀ p ∈ cs, PySem.W.CodeHd s₁.heap p.1 p.2)
    (hbm : ∃ (bm : Addr) (ob : Obj), mg "__builtins__" = some (.ref bm) ∧ bm ≠ builtinsNs ∧ s₁.heap.get? bm = some ob ∧ ob.cls = .type "module" ∧ ob.dict = some builtinsNs ∧ ob.data = .plain)
    (ha : s₁.heap.get? a = some { cls := .type "list", data := .seq vs.toArray }) (hv : Vals (ns.map V.int) vs) (hl : ns.length ≤ sizeLine) (hr : Room k callerA)
    (F : ∀ base : Heap, K.In base → base.Ns mainGlobals mg → (∀ p ∈ cs, TabB base mg p.1 p.2) → FnG P w K mg base CX0 k fa fd [x] sp) (hbind : ∀ (s : Shared) (u : Value), BindsTo s fd ⟨[u], []⟩ [(x, u)])
    (hsp : ∀ H : Hp, (∀ p ∈ cs, H p.2 = some (.tbl #[])) → SqL K H a (ns.map V.int) → sp [.ref a] H (fun v _ => v = .bl true) fun _ _ _ => False) :
    codeAny (model P w) callerA (.call (.ref fa) ⟨[.ref a], []⟩) (fun r s' => r = .ok (.ret (.bool true)) ∧ OldK s₁.heap s'.heap ∧ s'.os = s₁.os ∧ AllBare s'.gens) s₁ := by
  have tabAt : ∀ b ∈ tabs cs, s₁.heap.get? b = some { cls := .none, data := .fields #[] } := fun b hb => by
    obtain ⟨p, hp, e⟩ := List.mem_map.mp hb
    rw [← e]; exact hT p hp
  -- where something is tracked, it is a table or the script
  have two : ∀ b u, hp0 (tabs cs) sc b = some u → (b ∈ tabs cs ∧ u = .tbl #[]) ∨ (b ∉ tabs cs ∧ b = a ∧ K.lookup a = none ∧ u = .frz { cls := .type "list", data := .seq vs.toArray } (.lst (ns.map V.int))) := fun b u e => by
    by_cases h : b ∈ tabs cs
    · rw [hp0_tab h] at e
      exact .inl ⟨h, (Option.some.inj e).symm⟩
    · rw [hp0_off h] at e
      rcases hsc b with z | ⟨z1, z2, z3⟩
      · rw [z] at e; cases e
      · rw [z3] at e
        exact .inr ⟨h, z1, z2, (Option.some.inj e).symm⟩
  have free : ∀ b o, s₁.heap.get? b = some o → (∀ us n, o.data ≠ .seq us n) → o.data ≠ .fields #[] → hp0 (tabs cs) sc b = none := fun b o e h1 h2 => by
    cases q : hp0 (tabs cs) sc b with
    | none => rfl
    | some u =>
      rcases two b u q with ⟨z, _⟩ | ⟨_, z, _⟩
      · rw [tabAt b z] at e; cases e; exact (h2 rfl).elim
      · rw [z, ha] at e; cases e; exact (h1 _ _ rfl).elim
  have nod : ∀ b o es ep, s₁.heap.get? b = some o → o.data = .dict es ep → hp0 (tabs cs) sc b = none := fun b o es ep e d => free b o e (fun us n z => by rw [d] at z; cases z) fun z => by rw [d] at z; cases z
  have okH : HOk P w (hp0 (tabs cs) sc) s₁.heap := fun b u e => by
    rcases two b u e with ⟨z, rfl⟩ | ⟨_, rfl, _, rfl⟩
    · exact tabAt b z
    · exact ⟨ha, by rw [List.length_map]; exact hl, vs, _, hv, ha⟩
  have inB : K.In (hidT s₁.heap (hp0 (tabs cs) sc)) := fun b o e => hidT_get (KX b o e) (by
    cases q : hp0 (tabs cs) sc b with
    | none => rfl
    | some u =>
      rcases two b u q with ⟨z, _⟩ | ⟨_, z1, z2, _⟩
      · obtain ⟨p, hp, ep⟩ := List.mem_map.mp z
        have n0 := nT p hp
        rw [show p.2 = b from ep, e] at n0; cases n0
      · rw [z1, z2] at e; cases e)
  have md : L2.Mod K mg (hidT s₁.heap (hp0 (tabs cs) sc)) := ⟨inB, base_ns nod hns, ⟨mb, base_ns nod hb, hbb⟩, hlim.elim fun mc z => ⟨mc, base_ns nod z.1, z.2⟩⟩
  have tb : ∀ p ∈ cs, TabB (hidT s₁.heap (hp0 (tabs cs) sc)) mg p.1 p.2 := fun p hp => by
    have tp := hT p hp
    constructor
    · obtain ⟨o, us, file, tf, flags, tg, inF, text, tt, e1, r1, r2, r3, rr⟩ := C p hp
      refine ⟨o, us, file, tf, flags, tg, inF, text, tt, hidT_get e1 (free _ _ e1 (fun us n z => by rw [r2] at z; cases z) fun z => ?_), r1, r2, r3, rr⟩
      rw [r2] at z; cases z; simp at r3
    · obtain ⟨bm, ob, b1, b2, b3, b4, b5, b6⟩ := hbm
      refine ⟨bm, ob, b1, b2, fun q => ?_, fun q => ?_, hidT_get b3 (free _ _ b3 (fun us n z => by rw [b6] at z; cases z) fun z => by rw [b6] at z; cases z), b4, b5, b6⟩
      · obtain ⟨o, es, ep, e, hd, _⟩ := hns
        rw [q, e] at b3; cases b3; rw [hd] at b6; cases b6
      · rw [q, tp] at b3; cases b3; cases b6
    · intro z
      obtain ⟨o, es, ep, e, hd, _⟩ := hns
      rw [z, tp] at e; cases e; cases hd
  have e0 : Env0 P w K mg (hidT s₁.heap (hp0 (tabs cs) sc)) callerA [] s₁ (hp0 (tabs cs) sc) :=
    { frames := rfl, mod := md, bs := fun b o e => of_hidT e, bsz := Nat.le_of_eq (hidT_size _ _), funs := True.intro, frf := (fun b z => by cases z), hok := okH, bare := AllBare.of_eq hg }
  refine codeAny_mono ((F _ inB (base_ns nod hns) tb).go callerA [] s₁ _ ⟨[.ref a], []⟩ [.ref a] [.ref a] _ _ rfl hr e0 (hbind s₁ (.ref a)) (.cons rfl .nil) (hsp _ (fun p hp => hp0_tab (mem_tabs hp)) hS)) fun r s' h => ?_
  match r, h with
  | .error e, h => exact (show False from h).elim
  | .ok .next, h => exact (show False from h).elim
  | .ok .brk, h => exact (show False from h).elim
  | .ok .cont, h => exact (show False from h).elim
  | .ok (.ret u), h =>
    obtain ⟨v, H', os, bare, un, ok', rv, q⟩ := h
    obtain rfl : v = .bl true := q
    obtain rfl : u = Value.bool true := rv
    have kept : ∀ b o, b ∉ tabs cs → s₁.heap.get? b = some o → s'.heap.get? b = some o := fun b o nb e => by
      cases q : hp0 (tabs cs) sc b with
      | none => exact un.keep b o e q (fun z => by cases z) (fun z => by cases z)
      | some u =>
        rcases two b u q with ⟨z, _⟩ | ⟨_, _, _, rfl⟩
        · exact absurd z nb
        · obtain ⟨e1, _⟩ := okH b _ q
          obtain ⟨e2, _⟩ := ok' b _ (un.frzs b _ _ q)
          rw [e] at e1; cases e1; exact e2
    have more : ∀ b ∈ tabs cs, ∃ ps : Array Value, s'.heap.get? b = some { cls := .none, data := .fields ps } := fun b hb => by
      obtain ⟨m, z⟩ := un.tbls b #[] (hp0_tab hb)
      exact ⟨_, ok' b _ z⟩
    refine ⟨rfl, ⟨fun b o e => ?_, fun b o e => ?_⟩, os, bare⟩
    · by_cases h : b ∈ tabs cs
      · obtain ⟨ps, hm⟩ := more b h
        obtain ⟨p, hp, rfl⟩ := List.mem_map.mp h
        obtain rfl := Option.some.inj ((hT p hp).symm.trans e)
        exact .inr (.inl ⟨((C p hp).tab (hT p hp)).isCodeTable, rfl, #[], ps, rfl, by rw [Array.empty_append]; exact hm⟩)
      · exact .inl (kept b o h e)
    · by_cases h : b ∈ tabs cs
      · obtain ⟨ps, hm⟩ := more b h
        exact ⟨_, hm⟩
      · exact ⟨o, kept b o h e⟩
end
/-- what is known of the law's promise at the head's heap h -/
def LawG (l : PySem.W.OpenLaw) (w : World) (K : PySem.W.Frag) (k n : Nat) (x : Str) (mg : Str → Option Value) (fa : Addr) (h : Heap) : Prop :=
  ∃ (fd : FuncData) (cs : List (Addr × Addr)) (sp : Sp), ((∀ p ∈ cs, h.get? p.2 = some { cls := .none, data := .fields #[] }) ∧ (∀ p ∈ cs, K.lookup p.2 = none) ∧ ∀ p ∈ cs, PySem.W.CodeHd h p.1 p.2) ∧ (∀ (s : Shared) (u : Value), BindsTo s fd ⟨[u], []⟩ [(x, u)]) ∧
    (∀ (H : Hp) (a : Addr) (ns : List Int), ns.length ≤ n → (∀ p ∈ cs, H p.2 = some (.tbl #[])) → SqL K H a (ns.map V.int) → sp [.ref a] H (fun v _ => v = .bl true) fun _ _ _ => False) ∧
    ∀ base : Heap, K.In base → base.Ns mainGlobals mg → (∀ p ∈ cs, TabB base mg p.1 p.2) → FnG l.prog w K mg base CX0 k fa fd [x] sp
theorem walk_G {l : PySem.W.OpenLaw} {n k : Nat} {q : Program} {loose : List Str} {XP : (Str → Option Value) → Heap → Prop} {YP : World → Heap → Prop} {d : DefRec} {K : Params → PySem.W.Frag} {x : Str}
    (hn : l.most = some n) (hn2 : n ≤ sizeLine) (hdf : d.params.defaults = []) (hr : Room k callerA) (hY : ∀ (w : World) (h : Heap), YP w h → (K w.params).In h)
    (F : ∀ (w : World) (mg : Str → Option Value) (fa : Addr) (h : Heap), YP w h → (K w.params).In h → h.Ns mainGlobals mg → mg d.name = some (.ref fa) → LawG l w (K w.params) k n x mg fa h) :
    PySem.W.WalkO q loose XP YP l.row.toRowW d [] (fun f vs => PySem.call f vs) := by
  refine Att.attach_callB hn hdf fun w s₀ s₁ mg mb fa o pm cd doc a vs ns G Y ho hd hcd hmg hobj hints hlen hbits hg => ?_
  have KX := hY w _ Y
  obtain ⟨fd, cs, sp, ⟨t1, t2, t3⟩, hb, hsp, hF⟩ := F w mg fa _ Y KX G.T.g hmg
  have hv := vals_ints hints
  have l1 : ns.length ≤ sizeLine := Nat.le_trans hlen hn2
  have off : a ∉ tabs cs := fun z => by
    obtain ⟨p, hp, e⟩ := List.mem_map.mp z
    have e2 := t1 p hp
    rw [show p.2 = a from e, hobj] at e2
    cases e2
  cases hk : (K w.params).lookup a with
  | some ob =>
    have e := KX a ob hk
    rw [hobj] at e
    cases e
    exact law_runG (fun _ => none) (fun _ => .inl rfl) (.inr ⟨_, vs.toArray, _, hk, rfl, rfl, rfl, by rw [List.size_toArray, hints.length]; exact l1, by simpa using hv⟩) KX G.T.g G.T.b G.T.builtins G.T.nolimit hg t1 t2 t3 G.T.bmain hobj hv l1 hr hF hb fun H hH hS => hsp H a ns hlen hH hS
  | none =>
    refine law_runG (fun b => if b = a then some (.frz { cls := .type "list", data := .seq vs.toArray } (.lst (ns.map V.int))) else none) (fun b => ?_) (.inl (.inr ⟨_, by rw [hp0_off off]; exact if_pos rfl⟩)) KX G.T.g G.T.b G.T.builtins G.T.nolimit hg t1 t2 t3 G.T.bmain hobj hv l1 hr hF hb fun H hH hS => hsp H a ns hlen hH hS
    by_cases h : b = a
    · exact .inr ⟨h, hk, if_pos h⟩
    · exact .inl (if_neg h)
end Y
set_option Elab.async false
set_option linter.all false
set_option maxRecDepth 100000
set_option maxHeartbeats 2000000
namespace L2
open PySem PySem.Spec PyProof.Rows
/-! ### is the tuple in the set? -/
abbrev prb (m : Nat) (h : Int) (c : Nat) : SetTable.Probe := nth m (runAt m (SetTable.bits h % (m + 1)) (SetTable.bits h)) c
theorem prb_add (m : Nat) (h : Int) (c q : Nat) : nth m (prb m h c) q = prb m h (c + q) := (nth_add m c _ q).symm
theorem prb_j (m : Nat) (h : Int) (c q : Nat) : (nth m (prb m h c) q).j = way m h (c + q) := congrArg SetTable.Probe.j (prb_add m h c q)
theorem nth_dummy (m : Nat) : ∀ (n : Nat) (p : SetTable.Probe), p.dummy = none → (nth m p n).dummy = none
  | 0, _, h => h
  | n + 1, p, h => nth_dummy m n (adv m p) (by unfold adv; split <;> exact h)
section
variable {P : Program} {w : World} {A : Around} {E : Value → Shared → Prop} {s : Shared}
variable {a : Addr} {L : List (Addr × List Int)} {es : Array (Int × Value)} {ep : Nat} {t : SetTable}
theorem find_from (R : SetTR P w s.heap a L es ep t) {x : Addr} {k : List Int} (hx : IsT P w s.heap k x) (hu : A.units < cLine) {N : Nat} (hN : N < 10 * SetTable.turns t.mask)
    (free : way t.mask (thash P w k) N ∉ t.place.toList) (used : ∀ c, c < N → way t.mask (thash P w k) c ∈ t.place.toList) {Q : SetFound → Shared → Prop}
    (yes : k ∈ L.map (·.2) → ∀ i, Q (.there (some i)) s) (no : k ∉ L.map (·.2) → ∀ j d, Q (.free j d) s) :
    ∀ (f c : Nat) (st : Option SetTable.Probe), st.getD (t.probeStart (thash P w k)) = prb t.mask (thash P w k) c → c ≤ N → N - c < f →
      (∀ (i : Nat) p, L[i]? = some p → p.2 = k → ∃ c', c ≤ c' ∧ c' < N ∧ t.place.toList[i]? = some (way t.mask (thash P w k) c')) →
      wpAny (model P w) A (setSearchFrom a (.ref x) (thash P w k) false f st) Q E s
  | 0, _, _, _, _, hf, _ => absurd hf (Nat.not_lt_zero _)
  | f + 1, c, st, hst, hc, hf, hre => by
    obtain ⟨ob, hob, hexact, hdata⟩ := R.ob
    rw [setSearchFrom_succ]
    refine wpAny_bind (wpAny_setState_of hob hdata R.fits ?_)
    dsimp only
    refine wp_if_neg R.gw ?_
    try refine wpAny_bind (wpAny_pure ?_)
    have at_c : c + (N - c) = N := by omega
    have hashOf : ∀ (i : Nat) p, L[i]? = some p → (fun i => (es[i]?.map (·.1)).getD 0) i = thash P w p.2 := fun i p hp => by
      show (es[i]?.map (·.1)).getD 0 = _
      rw [R.entry hp] <;> rfl
    have spec := go_spec t R.tab.ris R.tab.dm (fun i => (es[i]?.map (·.1)).getD 0) (thash P w k) (10 * SetTable.turns t.mask) (N - c) (prb t.mask (thash P w k) c) (nth_dummy _ _ _ rfl) (by omega)
      (fun q hq => by rw [prb_j]; exact used (c + q) (by omega)) (by rw [prb_j, at_c]; exact free)
    rcases spec with ⟨q, i, hq, hi, hh, hno, hpr⟩ | ⟨hno, hpr⟩
    · have hpr' : t.probe (fun i => (es[i]?.map (·.1)).getD 0) (thash P w k) (st.getD (t.probeStart (thash P w k))) = some (.candidate (way t.mask (thash P w k) (c + q)) i (prb t.mask (thash P w k) (c + (q + 1)))) := by
        rw [hst, ← prb_j, ← prb_add]
        exact hpr
      rw [hpr']
      dsimp only
      rw [prb_j] at hi
      have hil : i < L.length := by
        have h1 : i < t.place.toList.length := (List.getElem?_eq_some_iff.mp hi).1
        have h2 : t.place.size = _ := R.tab.sz
        rw [List.length_map] at h2
        rw [Array.length_toList] at h1
        omega
      obtain ⟨p, hp⟩ : ∃ p, L[i]? = some p := ⟨L[i], List.getElem?_eq_getElem hil⟩
      have hmem : p ∈ L := List.mem_of_getElem? hp
      have isp := R.tup p hmem
      have rest : wpAny (model P w) A (searchRest a (.ref x) (thash P w k) false f es t (way t.mask (thash P w k) (c + q)) i (prb t.mask (thash P w k) (c + (q + 1)))) Q E s := by
        unfold searchRest
        rw [R.entry hp]
        dsimp only
        refine wpAny_bind (wpAny_holding (wpAny_eqBool_tuple hu isp hx ?_))
        refine wpAny_bind (wpAny_setState_of hob hdata R.fits ?_)
        dsimp only
        refine wp_if_neg (by simp) ?_
        try refine wpAny_bind (wpAny_pure ?_)
        rw [sameMem]
        dsimp only
        have live : t.slot (way t.mask (thash P w k) (c + q)) = .live i := slot_live R.tab.ris hi
        simp only [if_true, live, R.entry hp]
        refine wpAny_bind (wpAny_isSame_ref_self (wpAny_bind (wpAny_pure ?_)))
        simp only [if_true]
        by_cases same : p.2 = k
        · refine wp_if_pos (by simp [same]) ?_
          exact wpAny_pure (yes (List.mem_map.mpr ⟨p, hmem, same⟩) i)
        · refine wp_if_neg (by simp [same]) ?_
          refine find_from R hx hu hN free used yes no f (c + (q + 1)) _ rfl (by omega) (by omega) fun i0 p0 h0 hk0 => ?_
          obtain ⟨c', a1, a2, a3⟩ := hre i0 p0 h0 hk0
          refine ⟨c', ?_, a2, a3⟩
          rcases Nat.lt_trichotomy c' (c + q) with z | z | z
          · exact absurd ((hashOf i0 p0 h0).trans (congrArg (thash P w) hk0)) (hno (c' - c) i0 (by omega) (by rw [prb_j, show c + (c' - c) = c' by omega]; exact a3))
          · rw [z] at a3
            have s0 : t.slot (way t.mask (thash P w k) (c + q)) = .live i0 := slot_live R.tab.ris a3
            rw [live] at s0
            injection s0 with s0
            rw [← s0, hp] at h0
            exact absurd ((congrArg Prod.snd (Option.some.inj h0)).trans hk0) same
          · omega
      by_cases hl : t.led = true
      · refine wp_if_neg (by simp [hl]) ?_
        try refine wpAny_bind (wpAny_pure ?_)
        exact rest
      · refine wp_if_pos (by simp [hl]) ?_
        refine wpAny_bind (seen_tup hx (fun y hy => ?_) ?_)
        · obtain ⟨e, he, ee⟩ := List.mem_map.mp hy
          have both : e ∈ es ∧ e.1 = thash P w k := by simpa using he
          have he2 : e ∈ es.toList := Array.mem_toList_iff.mpr both.1
          rw [R.rows] at he2
          obtain ⟨p2, hp2, e2⟩ := List.mem_map.mp he2
          exact ⟨p2.2, p2.1, by rw [← ee, ← e2], R.tup p2 hp2⟩
        · refine wp_if_neg (by decide) ?_
          try refine wpAny_bind (wpAny_pure ?_)
          exact rest
    · have hpr' : t.probe (fun i => (es[i]?.map (·.1)).getD 0) (thash P w k) (st.getD (t.probeStart (thash P w k))) = some (.empty (way t.mask (thash P w k) N) none) := by
        have e2 : way t.mask (thash P w k) N = (nth t.mask (prb t.mask (thash P w k) c) (N - c)).j := by rw [prb_j, at_c]
        rw [hst, e2]
        exact hpr
      rw [hpr']
      dsimp only
      refine wpAny_pure (no (fun hm => ?_) _ _)
      obtain ⟨p0, h0, hk0⟩ := List.mem_map.mp hm
      obtain ⟨i0, hi0, e0⟩ := List.getElem_of_mem h0
      have at0 : L[i0]? = some p0 := by rw [List.getElem?_eq_getElem hi0, e0]
      obtain ⟨c', a1, a2, a3⟩ := hre i0 p0 at0 hk0
      exact absurd ((hashOf i0 p0 at0).trans (congrArg (thash P w) hk0)) (hno (c' - c) i0 (by omega) (by rw [prb_j, show c + (c' - c) = c' by omega]; exact a3))
theorem find_at (R : SetTR P w s.heap a L es ep t) {x : Addr} {k : List Int} (hx : IsT P w s.heap k x) (hu : A.units < cLine) {Q : Option Nat → Shared → Prop}
    (h : ∀ r : Option Nat, r.isSome = decide (k ∈ L.map (·.2)) → Q r s) : wpAny (model P w) A (setFind a (.ref x) (thash P w k)) Q E s := by
  obtain ⟨ob, hob, hexact, hdata⟩ := R.ob
  unfold setFind
  rw [show (100000 : Nat) = 99999 + 1 from rfl]
  unfold setFindIn
  refine wpAny_bind (wpAny_setState_of hob hdata R.fits ?_)
  dsimp only
  refine wp_if_neg (by simp [byScan, Value.scannable]) ?_
  try refine wpAny_bind (wpAny_pure ?_)
  have room := R.room
  obtain ⟨N, hN, free, used⟩ := R.tab.first (by rw [List.length_map]; omega) (thash P w k)
  have big : N < 100000 := by
    have : 10 * SetTable.turns t.mask ≤ 1420 := by
      unfold SetTable.turns
      rcases R.tab.mok with e | e | e <;> omega
    omega
  unfold setSearch
  refine wpAny_bind (find_from R hx hu hN free used (fun hm i => ?_) (fun hm j d => ?_) 100000 0 none rfl (Nat.zero_le _) (by omega) fun i p hp hk => ?_)
  · exact wpAny_pure (h _ (by rw [decide_eq_true hm]; rfl))
  · exact wpAny_pure (h _ (by rw [decide_eq_false hm]; rfl))
  · have hi : (L.map fun p => thash P w p.2)[i]? = some (thash P w k) := by rw [List.getElem?_map, hp, ← hk] <;> rfl
    have hil : i < t.place.toList.length := by
      have h1 : i < L.length := (List.getElem?_eq_some_iff.mp hp).1
      have h2 : t.place.size = _ := R.tab.sz
      rw [List.length_map] at h2
      rw [Array.length_toList]
      omega
    have hj := List.getElem?_eq_getElem hil
    obtain ⟨c, hc, e⟩ := R.tab.before free hi hj
    exact ⟨c, Nat.zero_le _, hc, by rw [hj, e]⟩
theorem in_setT (R : SetTR P w s.heap a L es ep t) {x : Addr} {k : List Int} (hx : IsT P w s.heap k x) (hu : A.units + 64 < cLine) {Q : Value → Shared → Prop}
    (h : Q (.bool (decide (k ∈ L.map (·.2)))) { s with toks := s.toks + (k.length + 1) }) : wpAny (model P w) A (compareOp .In (.ref x) (.ref a)) Q E s := by
  obtain ⟨ob, hob, hexact, hdata⟩ := R.ob
  have hT : s.TypeIs (.ref a) "set" := ⟨ob, hob, hexact.1⟩
  show wpAny _ _ (do return .bool (← contains (.ref a) (.ref x))) Q E s
  refine wpAny_bind ?_
  unfold contains
  try with_reducible refine wpAny_holding ?_
  refine wpAny_bind (wpAny_specialOf hT F.slot_set_contains.lookup ?_)
  show wpAny _ _ (if (some (Value.builtin "set.__contains__") == some Value.none) = true then _ else _) _ E s
  rw [if_neg (by rw [beq_builtin_none]; exact Bool.false_ne_true)]
  refine wpAny_bind (wpAny_callSpecialUnlessNone?_slot (name := Str.ofString "__contains__") hT F.slot_set_contains (wpAny_call_entry F.slot_set_contains hT entry_set_contains ?_ (F.args_set_contains_2 _ _)))
  unfold Builtin.«frozenset.__contains__» Builtin.Frozenset.oneOther
  simp only [List.isEmpty_nil, bind_assoc]
  unfold Builtin.Frozenset.addrOf Builtin.Frozenset.withSetAsKey setContains
  refine wpAny_bind (wpAny_pure ?_)
  try dsimp only
  refine wpAny_bind (wpAny_pure ?_)
  try dsimp only
  refine wpAny_bind (wpAny_tryCatch ?_)
  refine wpAny_holding ?_
  have hu1 : A.in1.units < cLine := Nat.lt_of_le_of_lt (show A.in1.units ≤ A.units + 64 from by show A.units + 1 ≤ A.units + 64; omega) hu
  refine wpAny_bind (wpAny_pyHash_tuple (A := A.in1) hu1 hx ?_)
  refine wpAny_bind (find_at (s := { s with toks := s.toks + (k.length + 1) }) R hx hu1 fun r hr => ?_)
  refine wpAny_pure ?_
  show wpAny _ _ (ret (Value.bool r.isSome)) _ _ _
  rw [hr]
  exact wpAny_pure ⟨_, rfl, wpAny_truthy_bool (wpAny_pure h)⟩
end
def rInSetT (K : PySem.W.Frag) (P : Program) (w : World) : R2 := fun x y H Q => ∃ (a b : Addr) (L : List (Addr × List Int)) (k : List Int), x = .ref b ∧ y = .ref a ∧ H a = some (SetTO P w a L) ∧ (∀ p ∈ L, SqT K H p.1 (p.2.map V.int)) ∧ SqT K H b (k.map V.int) ∧ Q (.bl (decide (k ∈ L.map (·.2)))) H
theorem op_inSetT {X : Cx} (hu : X.A.units + 64 < cLine) : OpR X (compareOp .In) (rInSetT X.K X.prog X.w) := by
  intro pins s σ H x y v u Q I rx ry h
  obtain ⟨a, b, L, k, rfl, rfl, ha, hL, hb, q⟩ := h
  cases rx
  cases ry
  obtain ⟨es, ep, t, R⟩ := SetT0.full (I.hok a _ ha).1 fun p hp => I.isT (hL p hp)
  exact in_setT R (I.isT hb) hu ⟨.bl _, H, I.tok _, rfl, q⟩
end L2
set_option Elab.async false
set_option linter.all false
set_option maxRecDepth 100000
set_option maxHeartbeats 2000000
namespace L2
open PySem PySem.Spec PyProof.Rows
/-! ### len(set(xs)), a list or a tuple of unlike ints -/
def tLenSet2 (K : PySem.W.Frag) (ta : TE) : TE := fun σ H Q => ta σ H fun x H1 => ∃ (l : Addr) (ns : List Int), x = V.ref l ∧ (SqL K H1 l (ns.map V.int) ∨ SqT K H1 l (ns.map V.int)) ∧ ns.length < 64 ∧ ns.Nodup ∧ Q (.int ns.length) H1
theorem pe_lenSet2 {X : Cx} {a : Expr} {ta : TE} {p p2 q pos : Pos} (hc : X.calm = true) (hg : Gl X "len") (hm : X.mg "len" = none) (hg2 : Gl X "set") (hm2 : X.mg "set" = none) (ha : PE X a ta)
    (na : starEach [a] X.env = (false, eval a X.env) :: starEach [] X.env := by rfl) : PE X (.Call (.Name "len" p) [.Call (.Name "set" p2) [a] [] q] [] pos) (tLenSet2 X.K ta) := by
  refine ⟨fun pins s σ H Q I h => ?_⟩
  refine Call_ (ld_blt I hg hm PySem.boot_len (PyProof.Rows.callWith_builtin1 (PyProof.Rows.args_cons ?_ rfl) rfl rfl))
  refine Call_ (ld_blt I hg2 hm2 PyProof.Rows.boot_set (PyProof.Rows.callWith_type1 (PyProof.Rows.args_cons (thn (ha.run pins s σ H _ I h) fun v s1 ⟨x, H1, I1, r1, q1⟩ => PyProof.Rows.args_nil ?_) na) na rfl))
  obtain ⟨l, ns, rfl, hq, few, nd, q1⟩ := q1
  cases r1
  have hd := I1.ok.hd hc
  rcases hq with hq | hq
  · obtain ⟨its, r, pl, hz⟩ := I1.list hq
    have hl : its.toArray.size = ns.length := by rw [List.size_toArray, ← r.length, List.length_map]
    refine call_set_list hd pl.isList (ns := ns) (by simpa using r.ints) (by unfold scanBound; omega) fun h' tk S k => ?_
    rw [hl, firstMet_nodup ns nd ns.length (Nat.le_refl _), List.take_length] at S
    obtain ⟨o, es, ep, t, ho, hex, hdt, _, _, _, hf, hn⟩ := S
    have I2 : Inv X pins σ H1 { s1 with heap := h', toks := tk } := I1.kept fun b o e => k b o (Heap.lt_size e) e
    exact PyProof.Rows.args_nil (call_len_set ho hex hdt hf (by rw [hn] <;> omega) ⟨.int ns.length, H1, I2.tok _, ⟨_, by rw [hn]⟩, q1⟩)
  · obtain ⟨its, rv, pt, hz⟩ := I1.tuple hq
    refine call_set_tupI ns hd (show s1.heap.IsTuple l its.toArray from pt) (ints_of_vals rv) (by unfold scanBound; omega) fun h' tk c R1 hcn k => ?_
    obtain ⟨o, es, ep, t, ho, hex, hdt, g, ndk, hm2, hb, hf, hn, hr, hl2⟩ := R1
    have pm : (es.toList.map keyOf).Perm ns := by
      refine (List.perm_ext_iff_of_nodup ndk nd).mpr fun j => ?_
      rw [← hm2 j, decide_eq_true_eq]
    have hsz : es.size = ns.length := by
      have := pm.length_eq
      rw [List.length_map, Array.length_toList] at this
      exact this
    have I2 : Inv X pins σ H1 { s1 with heap := h', toks := tk } := I1.kept k
    exact PyProof.Rows.args_nil (call_len_set ho hex hdt hf (by rw [hsz] <;> omega) ⟨.int ns.length, H1, I2.tok _, ⟨_, by rw [hsz]⟩, q1⟩)
end L2
set_option Elab.async false
set_option linter.all false
set_option maxRecDepth 100000
set_option maxHeartbeats 2000000
namespace L2
open PySem PySem.Spec PyProof.Rows
/-! ### len(set(xs)), a list or a tuple of any ints: as many as xs exactly if they are unlike -/
theorem perm_of_len : ∀ {L ns : List Int}, L.Nodup → (∀ j ∈ L, j ∈ ns) → L.length = ns.length → L.Perm ns
  | [], ns, _, _, h => by rw [List.eq_nil_of_length_eq_zero h.symm]
  | a :: L, ns, nd, hm, h => by
    obtain ⟨n1, n2⟩ := List.nodup_cons.mp nd
    have ha := hm a List.mem_cons_self
    have p := List.perm_cons_erase ha
    refine List.Perm.trans (List.Perm.cons a (perm_of_len n2 (fun j hj => ?_) ?_)) p.symm
    · exact (List.mem_erase_of_ne (fun z : j = a => n1 (by rw [← z]; exact hj))).mpr (hm j (List.mem_cons_of_mem _ hj))
    · have := p.length_eq
      rw [List.length_cons] at this h
      omega
theorem met_iff {L ns : List Int} (nd : L.Nodup) (hm : ∀ j, j ∈ L ↔ j ∈ ns) : L.length = ns.length ↔ ns.Nodup :=
  ⟨fun h => (perm_of_len nd (fun j => (hm j).mp) h).nodup_iff.mp nd, fun h => ((List.perm_ext_iff_of_nodup nd h).mpr hm).length_eq⟩
theorem met_nodup (val : Nat → Int) : ∀ i, (firstMet val i).Nodup
  | 0 => List.nodup_nil
  | i + 1 => by
    have ih := met_nodup val i
    rw [firstMet_succ]
    unfold step_dedup
    split
    · exact ih
    · rename_i h
      refine List.nodup_append.mpr ⟨ih, List.nodup_cons.mpr ⟨(fun h => by cases h), List.nodup_nil⟩, fun a ha b hb z => h ?_⟩
      rw [List.mem_singleton.mp hb] at z
      exact List.any_eq_true.mpr ⟨a, ha, by rw [z]; exact beq_self_eq_true _⟩
theorem met_mem (ns : List Int) (j : Int) : j ∈ firstMet (fun i => ns.getD i 0) ns.length ↔ j ∈ ns := by
  have h := firstMet_any (fun i => ns.getD i 0) ns.length j
  have e : (List.range ns.length).map (fun i => ns.getD i 0) = ns := by
    refine List.ext_getElem? fun i => ?_
    rw [List.getElem?_map]
    by_cases h : i < ns.length
    · rw [List.getElem?_range h, List.getElem?_eq_getElem h]
      show some (ns.getD i 0) = _
      rw [List.getD_eq_getElem?_getD, List.getElem?_eq_getElem h]
      rfl
    · rw [List.getElem?_eq_none (by rw [List.length_range]; omega), List.getElem?_eq_none (by omega)]
      rfl
  rw [e] at h
  have key : ∀ l : List Int, l.any (· == j) = true ↔ j ∈ l := fun l => by
    rw [List.any_eq_true]
    exact ⟨fun ⟨x, hx, z⟩ => (eq_of_beq z) ▸ hx, fun hx => ⟨j, hx, beq_self_eq_true j⟩⟩
  rw [← key, ← key ns, h]
def tLenSet3 (K : PySem.W.Frag) (ta : TE) : TE := fun σ H Q => ta σ H fun x H1 => ∃ (l : Addr) (ns : List Int), x = V.ref l ∧ (SqL K H1 l (ns.map V.int) ∨ SqT K H1 l (ns.map V.int)) ∧ ns.length < 64 ∧ ∀ c : Nat, c ≤ ns.length → (c = ns.length ↔ ns.Nodup) → Q (.int (c : Int)) H1
theorem pe_lenSet3 {X : Cx} {a : Expr} {ta : TE} {p p2 q pos : Pos} (hc : X.calm = true) (hg : Gl X "len") (hm : X.mg "len" = none) (hg2 : Gl X "set") (hm2 : X.mg "set" = none) (ha : PE X a ta)
    (na : starEach [a] X.env = (false, eval a X.env) :: starEach [] X.env := by rfl) : PE X (.Call (.Name "len" p) [.Call (.Name "set" p2) [a] [] q] [] pos) (tLenSet3 X.K ta) := by
  refine ⟨fun pins s σ H Q I h => ?_⟩
  refine Call_ (ld_blt I hg hm PySem.boot_len (PyProof.Rows.callWith_builtin1 (PyProof.Rows.args_cons ?_ rfl) rfl rfl))
  refine Call_ (ld_blt I hg2 hm2 PyProof.Rows.boot_set (PyProof.Rows.callWith_type1 (PyProof.Rows.args_cons (thn (ha.run pins s σ H _ I h) fun v s1 ⟨x, H1, I1, r1, q1⟩ => PyProof.Rows.args_nil ?_) na) na rfl))
  obtain ⟨l, ns, rfl, hq, few, q1⟩ := q1
  cases r1
  have hd := I1.ok.hd hc
  rcases hq with hq | hq
  · obtain ⟨its, r, pl, hz⟩ := I1.list hq
    have hl : its.toArray.size = ns.length := by rw [List.size_toArray, ← r.length, List.length_map]
    refine call_set_list hd pl.isList (ns := ns) (by simpa using r.ints) (by unfold scanBound; omega) fun h' tk S k => ?_
    rw [hl] at S
    have le := firstMet_length_le (fun i => ns.getD i 0) ns.length
    have iff := met_iff (met_nodup (fun i => ns.getD i 0) ns.length) (met_mem ns)
    generalize firstMet (fun i => ns.getD i 0) ns.length = L at S le iff
    obtain ⟨o, es, ep, t, ho, hex, hdt, _, _, _, hf, hn⟩ := S
    have I2 : Inv X pins σ H1 { s1 with heap := h', toks := tk } := I1.kept fun b o e => k b o (Heap.lt_size e) e
    exact PyProof.Rows.args_nil (call_len_set ho hex hdt hf (by rw [hn] <;> omega) ⟨.int L.length, H1, I2.tok _, ⟨_, by rw [hn]⟩, q1 _ le iff⟩)
  · obtain ⟨its, rv, pt, hz⟩ := I1.tuple hq
    refine call_set_tupI ns hd (show s1.heap.IsTuple l its.toArray from pt) (ints_of_vals rv) (by unfold scanBound; omega) fun h' tk c R1 hcn k => ?_
    obtain ⟨o, es, ep, t, ho, hex, hdt, g, ndk, hm2, hb, hf, hn, hr, hl2⟩ := R1
    have mem : ∀ j, j ∈ es.toList.map keyOf ↔ j ∈ ns := fun j => by rw [← hm2 j, decide_eq_true_eq]
    have iff := met_iff ndk mem
    rw [List.length_map, Array.length_toList] at iff
    have le : es.size ≤ ns.length := by
      have L1 : ∀ {L ms : List Int}, L.Nodup → (∀ j ∈ L, j ∈ ms) → L.length ≤ ms.length := fun {L} => by
        induction L with
        | nil => exact fun _ _ => Nat.zero_le _
        | cons a L ih =>
          intro ms nd hm
          obtain ⟨n1, n2⟩ := List.nodup_cons.mp nd
          have p := List.perm_cons_erase (hm a List.mem_cons_self)
          have := ih (ms := ms.erase a) n2 fun j hj => (List.mem_erase_of_ne (fun z : j = a => n1 (by rw [← z]; exact hj))).mpr (hm j (List.mem_cons_of_mem _ hj))
          have e := p.length_eq
          rw [List.length_cons] at e ⊢
          omega
      have := L1 ndk fun j hj => (mem j).mp hj
      rwa [List.length_map, Array.length_toList] at this
    have I2 : Inv X pins σ H1 { s1 with heap := h', toks := tk } := I1.kept k
    exact PyProof.Rows.args_nil (call_len_set ho hex hdt hf (by omega) ⟨.int es.size, H1, I2.tok _, ⟨_, rfl⟩, q1 _ le iff⟩)
end L2
set_option Elab.async false
set_option linter.all false
set_option maxRecDepth 100000
set_option maxHeartbeats 2000000
/-! min(xs, default=d) of a list of data that can be compared -/
namespace L2
open PySem PySem.Spec PyProof.Rows
def rMinD (K : PySem.W.Frag) : List V → List V → Hp → VK → Prop := fun vs ws H Q => ∃ (a : Addr) (xs : List V) (ds : List PyData) (d0 : V), vs = [.ref a] ∧ ws = [d0] ∧ SqL K H a xs ∧ DpAll K H xs ds ∧ PySem.W.AlikeAll ds ∧ PyData.depthAll ds ≤ 50 ∧
  (xs = [] → Q d0 H) ∧ ∀ (i : Nat) (x : V), xs[i]? = some x → Q x H
theorem call_minD {X : Cx} (hc : X.calm = true) (hu : X.A.units + 64 < cLine) : CallRK X (.builtin "min") [Str.ofString "default"] (rMinD X.K) := by
  intro pins s σ H vs zs us ws Q I r1 r2 h
  obtain ⟨a, xs, ds, d0, rfl, rfl, hs, hd, al, dep, k0, k1⟩ := h
  obtain ⟨its, rv, hl, _⟩ := I.list hs
  cases r2 with
  | cons rd rn =>
    rename_i w ws'
    cases rn
    rw [Vals.ref1 r1]
    obtain ⟨as, hr⟩ := Dp.readsAll I ds xs its hd rv
    show wpAny _ _ (call (.builtin "min") [.ref a] [(Str.ofString "default", w)]) _ _ s
    refine PySem.W.min_list_default (I.ok.hd hc) hl.isList hr al (by omega) (fun e h' tk hk => ?_) fun y ys i v h' tk bs e hv _ hk => ?_
    · have : xs = [] := by
        subst e
        cases hd
        rfl
      exact ⟨d0, H, I.kept hk, rd, k0 this⟩
    · have hv' : its[i]? = some v := by simpa using hv
      obtain ⟨x, hx, rx⟩ : ∃ x, xs[i]? = some x ∧ RelV x v := by
        have hl2 := rv.length
        have hi : i < xs.length := by
          rw [hl2]
          exact (List.getElem?_eq_some_iff.mp hv').1
        obtain ⟨u, hu, ru⟩ := rv.get (List.getElem?_eq_getElem hi)
        rw [hv'] at hu
        cases hu
        exact ⟨_, List.getElem?_eq_getElem hi, ru⟩
      exact ⟨x, H, I.kept hk, rx, k1 i x hx⟩
end L2
set_option Elab.async false
set_option linter.all false
set_option maxRecDepth 100000
set_option maxHeartbeats 2000000
namespace L2
open PySem PySem.Spec PyProof.Rows TS
section
variable {P : Program} {w : World} {A : Around} {E : Value → Shared → Prop} {s : Shared} {a : Addr} {L : List (Addr × List Int)} {es : Array (Int × Value)} {ep : Nat} {t : SetTable}
theorem notIn_setT (R : SetTR P w s.heap a L es ep t) {x : Addr} {k : List Int} (hx : IsT P w s.heap k x) (hu : A.units + 64 < cLine) {Q : Value → Shared → Prop}
    (h : Q (.bool (!decide (k ∈ L.map (·.2)))) { s with toks := s.toks + (k.length + 1) }) : wpAny (model P w) A (compareOp .NotIn (.ref x) (.ref a)) Q E s := by
  obtain ⟨ob, hob, hexact, hdata⟩ := R.ob
  have hT : s.TypeIs (.ref a) "set" := ⟨ob, hob, hexact.1⟩
  show wpAny _ _ (do return .bool (!(← contains (.ref a) (.ref x)))) Q E s
  refine wpAny_bind ?_
  unfold contains
  try with_reducible refine wpAny_holding ?_
  refine wpAny_bind (wpAny_specialOf hT F.slot_set_contains.lookup ?_)
  show wpAny _ _ (if (some (Value.builtin "set.__contains__") == some Value.none) = true then _ else _) _ E s
  rw [if_neg (by rw [beq_builtin_none]; exact Bool.false_ne_true)]
  refine wpAny_bind (wpAny_callSpecialUnlessNone?_slot (name := Str.ofString "__contains__") hT F.slot_set_contains (wpAny_call_entry F.slot_set_contains hT entry_set_contains ?_ (F.args_set_contains_2 _ _)))
  unfold Builtin.«frozenset.__contains__» Builtin.Frozenset.oneOther
  simp only [List.isEmpty_nil, bind_assoc]
  unfold Builtin.Frozenset.addrOf Builtin.Frozenset.withSetAsKey setContains
  refine wpAny_bind (wpAny_pure ?_)
  try dsimp only
  refine wpAny_bind (wpAny_pure ?_)
  try dsimp only
  refine wpAny_bind (wpAny_tryCatch ?_)
  refine wpAny_holding ?_
  have hu1 : A.in1.units < cLine := Nat.lt_of_le_of_lt (show A.in1.units ≤ A.units + 64 from by show A.units + 1 ≤ A.units + 64; omega) hu
  refine wpAny_bind (wpAny_pyHash_tuple (A := A.in1) hu1 hx ?_)
  refine wpAny_bind (find_at (s := { s with toks := s.toks + (k.length + 1) }) R hx hu1 fun r hr => ?_)
  refine wpAny_pure ?_
  show wpAny _ _ (ret (Value.bool r.isSome)) _ _ _
  rw [hr]
  exact wpAny_pure ⟨_, rfl, wpAny_truthy_bool (wpAny_pure h)⟩
end
def rNotInSetT (K : PySem.W.Frag) (P : Program) (w : World) : R2 := fun x y H Q => ∃ (a b : Addr) (L : List (Addr × List Int)) (k : List Int), x = .ref b ∧ y = .ref a ∧ H a = some (SetTO P w a L) ∧ (∀ p ∈ L, SqT K H p.1 (p.2.map V.int)) ∧ SqT K H b (k.map V.int) ∧ Q (.bl (!decide (k ∈ L.map (·.2)))) H
theorem op_notInSetT {X : Cx} (hu : X.A.units + 64 < cLine) : OpR X (compareOp .NotIn) (rNotInSetT X.K X.prog X.w) := by
  intro pins s σ H x y v u Q I rx ry h
  obtain ⟨a, b, L, k, rfl, rfl, ha, hL, hb, q⟩ := h
  cases rx
  cases ry
  obtain ⟨es, ep, t, R⟩ := SetT0.full (I.hok a _ ha).1 fun p hp => I.isT (hL p hp)
  exact notIn_setT R (I.isT hb) hu ⟨.bl _, H, I.tok _, rfl, q⟩
end L2
set_option Elab.async false
set_option linter.all false
set_option maxRecDepth 100000
set_option maxHeartbeats 2000000
namespace Y
open PySem L2
/-! ### all but one object stands -/
def But (p : Addr) (H H' : Hp) : Prop := ∀ b o, b ≠ p → H b = some o → H' b = some o
theorem But.refl (p : Addr) (H : Hp) : But p H H := fun _ _ _ h => h
theorem But.trans {p : Addr} {H H1 H2 : Hp} (a : But p H H1) (b : But p H1 H2) : But p H H2 := fun c o n h => b c o n (a c o n h)
theorem But.upd {p : Addr} {H : Hp} {o : HO} : But p H (upd H p o) := fun b u n h => by rw [upd_ne n]; exact h
theorem But.of_same {p : Addr} {H H' : Hp} (s : Same H H') : But p H H' := fun b o _ h => s b o h
theorem Same.new {H : Hp} {a : Addr} {o : HO} (h : H a = none) : Same H (upd H a o) := fun b u e => by
  rw [upd_ne (ne_of_none e h)]
  exact e
/-! ### the pen's dict -/
def penD (l : Addr) (a g c f : Int) : List (Key × V) :=
  [(Sum.inr "cells", .ref l), (Sum.inr "at", .int a), (Sum.inr "digits", .int g), (Sum.inr "count", .int c), (Sum.inr "fold", .int f)]
theorem k12 : ¬ ((Sum.inr ("cells" : Str) : Key) = Sum.inr ("at" : Str)) := by decide +kernel
theorem k13 : ¬ ((Sum.inr ("cells" : Str) : Key) = Sum.inr ("digits" : Str)) := by decide +kernel
theorem k14 : ¬ ((Sum.inr ("cells" : Str) : Key) = Sum.inr ("count" : Str)) := by decide +kernel
theorem k15 : ¬ ((Sum.inr ("cells" : Str) : Key) = Sum.inr ("fold" : Str)) := by decide +kernel
theorem k21 : ¬ ((Sum.inr ("at" : Str) : Key) = Sum.inr ("cells" : Str)) := by decide +kernel
theorem k23 : ¬ ((Sum.inr ("at" : Str) : Key) = Sum.inr ("digits" : Str)) := by decide +kernel
theorem k24 : ¬ ((Sum.inr ("at" : Str) : Key) = Sum.inr ("count" : Str)) := by decide +kernel
theorem k25 : ¬ ((Sum.inr ("at" : Str) : Key) = Sum.inr ("fold" : Str)) := by decide +kernel
theorem k31 : ¬ ((Sum.inr ("digits" : Str) : Key) = Sum.inr ("cells" : Str)) := by decide +kernel
theorem k32 : ¬ ((Sum.inr ("digits" : Str) : Key) = Sum.inr ("at" : Str)) := by decide +kernel
theorem k34 : ¬ ((Sum.inr ("digits" : Str) : Key) = Sum.inr ("count" : Str)) := by decide +kernel
theorem k35 : ¬ ((Sum.inr ("digits" : Str) : Key) = Sum.inr ("fold" : Str)) := by decide +kernel
theorem k41 : ¬ ((Sum.inr ("count" : Str) : Key) = Sum.inr ("cells" : Str)) := by decide +kernel
theorem k42 : ¬ ((Sum.inr ("count" : Str) : Key) = Sum.inr ("at" : Str)) := by decide +kernel
theorem k43 : ¬ ((Sum.inr ("count" : Str) : Key) = Sum.inr ("digits" : Str)) := by decide +kernel
theorem k45 : ¬ ((Sum.inr ("count" : Str) : Key) = Sum.inr ("fold" : Str)) := by decide +kernel
theorem k51 : ¬ ((Sum.inr ("fold" : Str) : Key) = Sum.inr ("cells" : Str)) := by decide +kernel
theorem k52 : ¬ ((Sum.inr ("fold" : Str) : Key) = Sum.inr ("at" : Str)) := by decide +kernel
theorem k53 : ¬ ((Sum.inr ("fold" : Str) : Key) = Sum.inr ("digits" : Str)) := by decide +kernel
theorem k54 : ¬ ((Sum.inr ("fold" : Str) : Key) = Sum.inr ("count" : Str)) := by decide +kernel
section
variable {l : Addr} {a g c f z : Int}
theorem pen_cells : valV (penD l a g c f) (Sum.inr "cells") = some (.ref l) := valV_pos rfl
theorem pen_at : valV (penD l a g c f) (Sum.inr "at") = some (.int a) := by
  rw [penD, valV_neg k12, valV_pos rfl]
theorem pen_digits : valV (penD l a g c f) (Sum.inr "digits") = some (.int g) := by
  rw [penD, valV_neg k13, valV_neg k23, valV_pos rfl]
theorem pen_count : valV (penD l a g c f) (Sum.inr "count") = some (.int c) := by
  rw [penD, valV_neg k14, valV_neg k24, valV_neg k34, valV_pos rfl]
theorem pen_fold : valV (penD l a g c f) (Sum.inr "fold") = some (.int f) := by
  rw [penD, valV_neg k15, valV_neg k25, valV_neg k35, valV_neg k45, valV_pos rfl]
theorem put_at : putK (penD l a g c f) (Sum.inr "at") (.int z) = penD l z g c f := by
  unfold putK
  rw [if_pos (by rw [valV_any, pen_at]; rfl)]
  simp only [penD, List.map_cons, List.map_nil, if_neg k12, if_neg k32, if_neg k42, if_neg k52, if_pos]
theorem put_digits : putK (penD l a g c f) (Sum.inr "digits") (.int z) = penD l a z c f := by
  unfold putK
  rw [if_pos (by rw [valV_any, pen_digits]; rfl)]
  simp only [penD, List.map_cons, List.map_nil, if_neg k13, if_neg k23, if_neg k43, if_neg k53, if_pos]
theorem put_count : putK (penD l a g c f) (Sum.inr "count") (.int z) = penD l a g z f := by
  unfold putK
  rw [if_pos (by rw [valV_any, pen_count]; rfl)]
  simp only [penD, List.map_cons, List.map_nil, if_neg k14, if_neg k24, if_neg k34, if_neg k54, if_pos]
theorem put_fold : putK (penD l a g c f) (Sum.inr "fold") (.int z) = penD l a g c z := by
  unfold putK
  rw [if_pos (by rw [valV_any, pen_fold]; rfl)]
  simp only [penD, List.map_cons, List.map_nil, if_neg k15, if_neg k25, if_neg k35, if_neg k45, if_pos]
end
/-- the pen at p, b more draws being allowed -/
structure Pen (H : Hp) (p l : Addr) (b : Nat) : Prop where
  ex : ∃ (ns : List Int) (a g c f : Int), H p = some (.dK (penD l a g c f)) ∧ H l = some (.lst (ns.map V.int)) ∧ ns.length ≤ 63 ∧
    0 ≤ a ∧ 0 ≤ g ∧ 0 ≤ c ∧ c + (b : Int) ≤ 2 ^ 40 ∧ 0 ≤ f ∧ f < 2147483587
theorem Pen.less {H : Hp} {p l : Addr} {b b' : Nat} (h : Pen H p l b) (hb : b' ≤ b) : Pen H p l b' := by
  obtain ⟨ns, a, g, c, f, h1, h2, h3, h4, h5, h6, h7, h8, h9⟩ := h.ex
  exact ⟨ns, a, g, c, f, h1, h2, h3, h4, h5, h6, by omega, h8, h9⟩
theorem Pen.there {H : Hp} {p l : Addr} {b : Nat} (h : Pen H p l b) : ∃ kvs, H p = some (.dK kvs) := by
  obtain ⟨ns, a, g, c, f, h1, _⟩ := h.ex
  exact ⟨_, h1⟩
theorem Pen.cells {H : Hp} {p l : Addr} {b : Nat} (h : Pen H p l b) : ∃ vs, H l = some (.lst vs) := by
  obtain ⟨ns, a, g, c, f, _, h2, _⟩ := h.ex
  exact ⟨_, h2⟩
theorem Pen.same {H H' : Hp} {p l : Addr} {b : Nat} (h : Pen H p l b) (s : Same H H') : Pen H' p l b := by
  obtain ⟨ns, a, g, c, f, h1, h2, h3⟩ := h.ex
  exact ⟨ns, a, g, c, f, s _ _ h1, s _ _ h2, h3⟩
theorem Pen.upd {H : Hp} {p l x : Addr} {o : HO} {b : Nat} (h : Pen H p l b) (n1 : p ≠ x) (n2 : l ≠ x) : Pen (upd H x o) p l b := by
  obtain ⟨ns, a, g, c, f, h1, h2, h3⟩ := h.ex
  exact ⟨ns, a, g, c, f, by rw [upd_ne n1]; exact h1, by rw [upd_ne n2]; exact h2, h3⟩
/-- what is new is neither the pen nor its cells -/
theorem Pen.off {H : Hp} {p l x : Addr} {b : Nat} (h : Pen H p l b) (n : H x = none) : p ≠ x ∧ l ≠ x := by
  obtain ⟨kvs, h1⟩ := h.there
  obtain ⟨vs, h2⟩ := h.cells
  exact ⟨ne_of_none h1 n, ne_of_none h2 n⟩
/-! ### the promises -/
def spPen (K : PySem.W.Frag) : Sp := fun vs H Q _ => ∃ (a : Addr) (ns : List Int), vs = [.ref a] ∧ SqL K H a (ns.map V.int) ∧ ns.length ≤ 63 ∧
  ∀ (p l : Addr) (H' : Hp), Pen H' p l (2 ^ 40) → Same H H' → H p = none → Q (.ref p) H'
def spDraw : Sp := fun vs H Q _ => ∃ (p l : Addr) (m : Int) (b : Nat), vs = [.ref p, .int m] ∧ Pen H p l (b + 1) ∧ 0 < m ∧ m ≤ 2 ^ 40 ∧
  ∀ (n : Int) (H' : Hp), 0 ≤ n → n < m → Pen H' p l b → But p H H' → Q (.int n) H'
def spPick (K : PySem.W.Frag) : Sp := fun vs H Q _ => ∃ (p l s : Addr) (xs : List V) (b : Nat), vs = [.ref p, .ref s] ∧ Pen H p l (b + 1) ∧ (SqL K H s xs ∨ SqT K H s xs) ∧ xs ≠ [] ∧ xs.length ≤ 1000000 ∧
  ∀ (x : V) (i : Nat) (H' : Hp), xs[i]? = some x → Pen H' p l b → But p H H' → Q x H'
theorem pen_merge {l : Addr} {a g c f : Int} : mergeK [] (penD l a g c f) = penD l a g c f := by
  show putK (putK (putK (putK (putK ([]) (Sum.inr "cells" : Key) (V.ref l)) (Sum.inr "at" : Key) (V.int a)) (Sum.inr "digits" : Key) (V.int g)) (Sum.inr "count" : Key) (V.int c)) (Sum.inr "fold" : Key) (V.int f) = penD l a g c f
  have e1 : putK ([] : List (Key × V)) (Sum.inr "cells" : Key) (V.ref l) = [((Sum.inr "cells" : Key), V.ref l)] := putK_new _ rfl
  have e2 : putK [((Sum.inr "cells" : Key), V.ref l)] (Sum.inr "at" : Key) (V.int a) = [((Sum.inr "cells" : Key), V.ref l), ((Sum.inr "at" : Key), V.int a)] := putK_new _ (by rw [valV_neg k12]; rfl)
  have e3 : putK [((Sum.inr "cells" : Key), V.ref l), ((Sum.inr "at" : Key), V.int a)] (Sum.inr "digits" : Key) (V.int g) = [((Sum.inr "cells" : Key), V.ref l), ((Sum.inr "at" : Key), V.int a), ((Sum.inr "digits" : Key), V.int g)] := putK_new _ (by rw [valV_neg k13, valV_neg k23]; rfl)
  have e4 : putK [((Sum.inr "cells" : Key), V.ref l), ((Sum.inr "at" : Key), V.int a), ((Sum.inr "digits" : Key), V.int g)] (Sum.inr "count" : Key) (V.int c) = [((Sum.inr "cells" : Key), V.ref l), ((Sum.inr "at" : Key), V.int a), ((Sum.inr "digits" : Key), V.int g), ((Sum.inr "count" : Key), V.int c)] := putK_new _ (by rw [valV_neg k14, valV_neg k24, valV_neg k34]; rfl)
  have e5 : putK [((Sum.inr "cells" : Key), V.ref l), ((Sum.inr "at" : Key), V.int a), ((Sum.inr "digits" : Key), V.int g), ((Sum.inr "count" : Key), V.int c)] (Sum.inr "fold" : Key) (V.int f) = [((Sum.inr "cells" : Key), V.ref l), ((Sum.inr "at" : Key), V.int a), ((Sum.inr "digits" : Key), V.int g), ((Sum.inr "count" : Key), V.int c), ((Sum.inr "fold" : Key), V.int f)] := putK_new _ (by rw [valV_neg k15, valV_neg k25, valV_neg k35, valV_neg k45]; rfl)
  rw [e1, e2, e3, e4, e5]
  rfl
theorem pen_small {l : Addr} {a g c f : Int} : (penD l a g c f).length < sizeLine := by show 5 < sizeLine; decide
section
variable {H : Hp} {p l : Addr} {a g c f z : Int}
theorem get_cells (e : H p = some (.dK (penD l a g c f))) : DGet H p (.str "cells") (some (.ref l)) := .inl ⟨_, Sum.inr "cells", .inl e, rfl, pen_cells.symm⟩
theorem get_at (e : H p = some (.dK (penD l a g c f))) : DGet H p (.str "at") (some (.int a)) := .inl ⟨_, Sum.inr "at", .inl e, rfl, pen_at.symm⟩
theorem get_digits (e : H p = some (.dK (penD l a g c f))) : DGet H p (.str "digits") (some (.int g)) := .inl ⟨_, Sum.inr "digits", .inl e, rfl, pen_digits.symm⟩
theorem get_count (e : H p = some (.dK (penD l a g c f))) : DGet H p (.str "count") (some (.int c)) := .inl ⟨_, Sum.inr "count", .inl e, rfl, pen_count.symm⟩
theorem get_fold (e : H p = some (.dK (penD l a g c f))) : DGet H p (.str "fold") (some (.int f)) := .inl ⟨_, Sum.inr "fold", .inl e, rfl, pen_fold.symm⟩
theorem dput_count (e : H p = some (.dK (penD l a g c f))) : DPut H p (.str "count") (.int z) (upd H p (.dK (penD l a g z f))) := .inl ⟨_, Sum.inr "count", e, rfl, pen_small, by rw [put_count]⟩
theorem dput_at : DPut (upd H p (.dK (penD l a g c f))) p (.str "at") (.int z) (upd H p (.dK (penD l z g c f))) := .inl ⟨_, Sum.inr "at", upd_same, rfl, pen_small, by rw [put_at, upd_upd]⟩
theorem dput_digits : DPut (upd H p (.dK (penD l a g c f))) p (.str "digits") (.int z) (upd H p (.dK (penD l a z c f))) := .inl ⟨_, Sum.inr "digits", upd_same, rfl, pen_small, by rw [put_digits, upd_upd]⟩
theorem dput_fold : DPut (upd H p (.dK (penD l a g c f))) p (.str "fold") (.int z) (upd H p (.dK (penD l a g c z))) := .inl ⟨_, Sum.inr "fold", upd_same, rfl, pen_small, by rw [put_fold, upd_upd]⟩
end
theorem But.keep {p : Addr} {H H' : Hp} {a : Addr} {o u : HO} (s : But p H H') (hp : H p = some u) (h : H a = some o) (d : o ≠ u) : H' a = some o := s a o (fun e => d (by rw [e, hp] at h; exact (Option.some.inj h).symm)) h
theorem ints_at {ns : List Int} {i : Nat} {y : V} (h : (ns.map V.int)[i]? = some y) : ∃ z, ns[i]? = some z ∧ y = V.int z := by
  rw [List.getElem?_map] at h
  cases e : ns[i]? with
  | none => rw [e] at h; cases h
  | some z => rw [e] at h; exact ⟨z, rfl, (Option.some.inj h).symm⟩
end Y
namespace Y
open PySem L2
theorem atI_int {α : Type} {xs : List α} {i : Int} {v : α} (h0 : 0 ≤ i) (h : xs[i.toNat]? = some v) : atI xs i = some v := by
  have := atI_nat h
  rwa [show ((i.toNat : Nat) : Int) = i by omega] at this
/-- an item that is there -/
theorem there_int {α : Type} {xs : List α} {i : Int} (h0 : 0 ≤ i) (h1 : i < (xs.length : Int)) : ∃ v, xs[i.toNat]? = some v ∧ atI xs i = some v := by
  have h : i.toNat < xs.length := by omega
  exact ⟨xs[i.toNat], List.getElem?_eq_getElem h, atI_int h0 (List.getElem?_eq_getElem h)⟩
theorem But.seq {K : PySem.W.Frag} {p : Addr} {H H' : Hp} {a : Addr} {xs : List V} {kvs : List (Key × V)} (e : But p H H') (hp : H p = some (.dK kvs)) (h : SqL K H a xs) : SqL K H' a xs := by
  rcases h with (h | ⟨o, h⟩) | h
  · exact .inl (.inl (e.keep hp h (by intro z; cases z)))
  · exact .inl (.inr ⟨o, e.keep hp h (by intro z; cases z)⟩)
  · exact .inr h
theorem But.seqT {K : PySem.W.Frag} {p : Addr} {H H' : Hp} {a : Addr} {xs : List V} {kvs : List (Key × V)} (e : But p H H') (hp : H p = some (.dK kvs)) (h : SqT K H a xs) : SqT K H' a xs := by
  rcases h with (h | ⟨o, h⟩) | h
  · exact .inl (.inl (e.keep hp h (by intro z; cases z)))
  · exact .inl (.inr ⟨o, e.keep hp h (by intro z; cases z)⟩)
  · exact .inr h
end Y
set_option Elab.async false
set_option linter.all false
set_option maxRecDepth 100000
set_option maxHeartbeats 2000000
namespace Y
open PySem PySem.Spec PyProof.Rows L2
/-! ### all but dicts stands -/
def Kp (H H' : Hp) : Prop := ∀ b o, H b = some o → (∀ kvs, o ≠ .dK kvs) → H' b = some o
theorem Kp.refl (H : Hp) : Kp H H := fun _ _ h _ => h
theorem Kp.trans {H H1 H2 : Hp} (a : Kp H H1) (b : Kp H1 H2) : Kp H H2 := fun c o h n => b c o (a c o h n) n
theorem Kp.of_same {H H' : Hp} (s : Same H H') : Kp H H' := fun b o h _ => s b o h
theorem Kp.of_but {p : Addr} {H H' : Hp} {kvs : List (Key × V)} (s : But p H H') (h : H p = some (.dK kvs)) : Kp H H' := fun b o e n => s b o (fun z => n kvs (by rw [z, h] at e; exact (Option.some.inj e).symm)) e
theorem Kp.new {H : Hp} {a : Addr} {o : HO} (h : H a = none) : Kp H (upd H a o) := .of_same (Same.new h)
/-- a store at an object that is new -/
theorem Kp.upd {H H' : Hp} {a : Addr} {o : HO} (s : Kp H H') (h : H a = none) : Kp H (upd H' a o) := fun b u e n => by rw [upd_ne (ne_of_none e h)]; exact s b u e n
section
variable {K : PySem.W.Frag} {H H' : Hp}
theorem Kp.lst {a : Addr} {xs : List V} (s : Kp H H') (h : H a = some (.lst xs)) : H' a = some (.lst xs) := s _ _ h fun _ z => by cases z
theorem Kp.tup {a : Addr} {xs : List V} (s : Kp H H') (h : H a = some (.tup xs)) : H' a = some (.tup xs) := s _ _ h fun _ z => by cases z
theorem Kp.seqT {a : Addr} {xs : List V} (s : Kp H H') (h : SqT K H a xs) : SqT K H' a xs := by
  rcases h with (h | ⟨o, h⟩) | h
  · exact .inl (.inl (s _ _ h fun _ z => by cases z))
  · exact .inl (.inr ⟨o, s _ _ h fun _ z => by cases z⟩)
  · exact .inr h
theorem Kp.seqL {a : Addr} {xs : List V} (s : Kp H H') (h : SqL K H a xs) : SqL K H' a xs := by
  rcases h with (h | ⟨o, h⟩) | h
  · exact .inl (.inl (s _ _ h fun _ z => by cases z))
  · exact .inl (.inr ⟨o, s _ _ h fun _ z => by cases z⟩)
  · exact .inr h
theorem Kp.seq {a : Addr} {xs : List V} (s : Kp H H') (h : SqL K H a xs ∨ SqT K H a xs) : SqL K H' a xs ∨ SqT K H' a xs := h.imp s.seqL s.seqT
mutual
theorem Kp.dp (s : Kp H H') : ∀ {v : V} {d : PyData}, Dp K H v d → Dp K H' v d
  | _, _, .non => .non
  | _, _, .bl b => .bl b
  | _, _, .int i => .int i
  | _, _, .str x => .str x
  | _, _, .lst h t => .lst (s.seqL h) (Kp.dpAll s t)
  | _, _, .tup h t => .tup (s.seqT h) (Kp.dpAll s t)
theorem Kp.dpAll (s : Kp H H') : ∀ {vs : List V} {ds : List PyData}, DpAll K H vs ds → DpAll K H' vs ds
  | _, _, .nil => .nil
  | _, _, .cons h t => .cons (Kp.dp s h) (Kp.dpAll s t)
end
end
theorem erase_perm {α : Type} : ∀ {l : List α} {k : Nat} {y : α}, l[k]? = some y → (y :: l.eraseIdx k).Perm l
  | [], k, y, h => by simp at h
  | a :: l, 0, y, h => by cases Option.some.inj h; exact .refl _
  | a :: l, k + 1, y, h => (List.Perm.swap a y _).trans ((erase_perm (l := l) (k := k) (y := y) h).cons a)
theorem pop_perm {α : Type} {f l xs : List α} {k : Nat} {y : α} (h : l[k]? = some y) (p : (f ++ l).Perm xs) : ((f ++ [y]) ++ l.eraseIdx k).Perm xs := by
  rw [List.append_assoc]
  exact ((erase_perm h).append_left f).trans p
theorem get_of_lt {α : Type} {l : List α} {n : Int} (h0 : 0 ≤ n) (h1 : n < l.length) : ∃ y, l[n.toNat]? = some y := ⟨l[n.toNat]'(by omega), List.getElem?_eq_getElem (by omega)⟩
end Y
set_option Elab.async false
set_option linter.all false
set_option maxRecDepth 100000
set_option maxHeartbeats 2000000
/-! comprehensions whose items are reckoned without a trace: the new list holds the values in order -/
namespace Y
open PySem PySem.Spec PyProof.Rows L2
theorem take_next {α : Type} : ∀ {l : List α} {i : Nat} {x : α}, l[i]? = some x → l.take (i + 1) = l.take i ++ [x]
  | [], i, x, h => by simp at h
  | a :: l, 0, x, h => by
    cases Option.some.inj h
    rfl
  | a :: l, i + 1, x, h => by
    have ih := take_next (l := l) (i := i) (x := x) h
    show a :: l.take (i + 1) = a :: l.take i ++ [x]
    rw [ih]
    rfl
section
variable {K : PySem.W.Frag} {a D : Addr} {xs : List V} {g : TG} {te : TE} {vs : List Nat} {σ : L2.St} {H1 : Hp} {Qd : Hp → Prop} {f : V → V}
/-- over a list -/
theorem lcp_list (hn : H1 D = none) (hz : xs.length ≤ 1000000) (ha : SqL K H1 a xs)
    (he : ∀ (i : Nat) (x : V) (H : Hp) (R : VK), xs[i]? = some x → Same H1 H → R (f x) H → g x (wipe σ vs) H fun σ2 H2 => wipe σ2 vs = wipe σ vs ∧ te σ2 H2 R) (hd : Qd (upd H1 D (.lst (xs.map f)))) :
    ∃ W : Nat → Nat → Hp → Prop, (∃ m, W 0 m (upd H1 D (.lst []))) ∧ ∀ i m H, W i m H →
      ((Itl K a).stop i H ∧ Qd H) ∨ ((Itl K a).go i H ∧ ∃ Nx : Hp → Prop, (∀ H', Nx H' → ∃ m', m' < m ∧ W (i + 1) m' H') ∧ ∀ x H', (Itl K a).yld i H x H' → g x (wipe σ vs) H' fun σ2 H2 => wipe σ2 vs = wipe σ vs ∧ tYes σ2 H2 fun b H3 =>
        if b = true then te σ2 H3 fun y H4 => ∃ acc, H4 D = some (.lst acc) ∧ acc.length < sizeLine ∧ Nx (upd H4 D (.lst (acc ++ [y]))) else Nx H3) := by
  refine lc_list (K := K) (a := a) (xs := xs) (fun i H => H = upd H1 D (.lst ((xs.take i).map f))) rfl (fun i H _ e => ?_) (fun i x H hi e => ?_) (fun H e => ?_)
  · rw [e]
    exact (Y.Same.new hn).seq ha
  · subst e
    refine he i x _ _ hi (Y.Same.new hn) ⟨(xs.take i).map f, upd_same, ?_, ?_⟩
    · rw [List.length_map, List.length_take]
      have : sizeLine = 16777216 := sizeLine_eq
      omega
    · rw [upd_upd, take_next hi, List.map_append]
      rfl
  · rw [e, List.take_length]
    exact hd
/-- over a tuple -/
theorem lcp_tup (hn : H1 D = none) (hz : xs.length ≤ 1000000) (ha : SqT K H1 a xs) (hS : ∀ H', Same H1 H' → SqT K H' a xs)
    (he : ∀ (i : Nat) (x : V) (H : Hp) (R : VK), xs[i]? = some x → Same H1 H → R (f x) H → g x (wipe σ vs) H fun σ2 H2 => wipe σ2 vs = wipe σ vs ∧ te σ2 H2 R) (hd : Qd (upd H1 D (.lst (xs.map f)))) :
    ∃ W : Nat → Nat → Hp → Prop, (∃ m, W 0 m (upd H1 D (.lst []))) ∧ ∀ i m H, W i m H →
      ((Itt K a).stop i H ∧ Qd H) ∨ ((Itt K a).go i H ∧ ∃ Nx : Hp → Prop, (∀ H', Nx H' → ∃ m', m' < m ∧ W (i + 1) m' H') ∧ ∀ x H', (Itt K a).yld i H x H' → g x (wipe σ vs) H' fun σ2 H2 => wipe σ2 vs = wipe σ vs ∧ tYes σ2 H2 fun b H3 =>
        if b = true then te σ2 H3 fun y H4 => ∃ acc, H4 D = some (.lst acc) ∧ acc.length < sizeLine ∧ Nx (upd H4 D (.lst (acc ++ [y]))) else Nx H3) := by
  refine lc_tup (K := K) (a := a) (xs := xs) (fun i H => H = upd H1 D (.lst ((xs.take i).map f))) rfl (fun i H _ e => ?_) (fun i x H hi e => ?_) (fun H e => ?_)
  · rw [e]
    exact hS _ (Y.Same.new hn)
  · subst e
    refine he i x _ _ hi (Y.Same.new hn) ⟨(xs.take i).map f, upd_same, ?_, ?_⟩
    · rw [List.length_map, List.length_take]
      have : sizeLine = 16777216 := sizeLine_eq
      omega
    · rw [upd_upd, take_next hi, List.map_append]
      rfl
  · rw [e, List.take_length]
    exact hd
/-- over a text, sign by sign -/
theorem lcp_str {t : Str} {f : Nat → V} (hn : H1 D = none) (hz : t.cps.size ≤ 1000000)
    (he : ∀ (i c : Nat) (H : Hp) (R : VK), t.cps[i]? = some c → Same H1 H → R (f c) H → g (.str ⟨#[c]⟩) (wipe σ vs) H fun σ2 H2 => wipe σ2 vs = wipe σ vs ∧ te σ2 H2 R) (hd : Qd (upd H1 D (.lst (t.cps.toList.map f)))) :
    ∃ W : Nat → Nat → Hp → Prop, (∃ m, W 0 m (upd H1 D (.lst []))) ∧ ∀ i m H, W i m H →
      ((Its t).stop i H ∧ Qd H) ∨ ((Its t).go i H ∧ ∃ Nx : Hp → Prop, (∀ H', Nx H' → ∃ m', m' < m ∧ W (i + 1) m' H') ∧ ∀ x H', (Its t).yld i H x H' → g x (wipe σ vs) H' fun σ2 H2 => wipe σ2 vs = wipe σ vs ∧ tYes σ2 H2 fun b H3 =>
        if b = true then te σ2 H3 fun y H4 => ∃ acc, H4 D = some (.lst acc) ∧ acc.length < sizeLine ∧ Nx (upd H4 D (.lst (acc ++ [y]))) else Nx H3) := by
  refine ⟨fun i m H => m = t.cps.size - i ∧ i ≤ t.cps.size ∧ H = upd H1 D (.lst ((t.cps.toList.take i).map f)), ⟨t.cps.size, by simp, Nat.zero_le _, rfl⟩, ?_⟩
  rintro i m H ⟨rfl, hi, rfl⟩
  by_cases c : i < t.cps.size
  · refine .inr ⟨c, fun H => H = upd H1 D (.lst ((t.cps.toList.take (i + 1)).map f)), fun H' e => ⟨t.cps.size - (i + 1), by omega, rfl, c, e⟩, ?_⟩
    rintro x H' ⟨rfl, d, hd', rfl⟩
    refine he i d _ _ hd' (Y.Same.new hn) ⟨_, upd_same, ?_, ?_⟩
    · rw [List.length_map]
      have : sizeLine = 16777216 := sizeLine_eq
      have := List.length_take_le i t.cps.toList
      omega
    · have e : t.cps.toList[i]? = some d := by rw [Array.getElem?_toList]; exact hd'
      rw [upd_upd, take_next e, List.map_append]
      rfl
  · refine .inl ⟨by show t.cps.size ≤ i; omega, ?_⟩
    rw [List.take_of_length_le (by rw [Array.length_toList]; omega)]
    exact hd
end
theorem Same.seqT {K : PySem.W.Frag} {H H' : Hp} {a : Addr} {xs : List V} (e : Same H H') (h : SqT K H a xs) : SqT K H' a xs := by
  rcases h with (h | ⟨o, h⟩) | h
  · exact .inl (.inl (e _ _ h))
  · exact .inl (.inr ⟨o, e _ _ h⟩)
  · exact .inr h
end Y
namespace Y
open PySem PySem.Spec PyProof.Rows L2
section
variable {X : Cx} {x : Str} {pos : Pos}
/-- a name of the module: an int, a text, an object -/
theorem pgI {i : Int} {t : Tok} (hm : X.mg x = some (.int i t)) (hg : Gl X x := by rfl) (hd : (x == ("__debug__" : Str)) = false := by decide) : PE X (.Name x pos) (tC (.int i)) := pe_glob (v := .int i) hg hm ⟨_, rfl⟩ hd
theorem pgS {z : Str} {t : Tok} (hm : X.mg x = some (.str z t)) (hg : Gl X x := by rfl) (hd : (x == ("__debug__" : Str)) = false := by decide) : PE X (.Name x pos) (tC (.str z)) := pe_glob (v := .str z) hg hm ⟨_, rfl⟩ hd
theorem pgR {a : Addr} (hm : X.mg x = some (.ref a)) (hg : Gl X x := by rfl) (hd : (x == ("__debug__" : Str)) = false := by decide) : PE X (.Name x pos) (tC (.ref a)) := pe_glob (v := .ref a) hg hm rfl hd
/-- a built-in class as a value -/
theorem pbT {n : String} (hm : X.mg x = none) (hv : bootBuiltins x = some (.type n)) (hg : Gl X x := by rfl) (hn : x ≠ "__name__" := by decide) (hd : (x == ("__debug__" : Str)) = false := by decide) : PE X (.Name x pos) (tC (.ty n)) := pe_bltn (v := .ty n) hg hm hv rfl hn hd
end
theorem ifT {c : Bool} {A B : Prop} (h : c = true → A) (h2 : c = false → B) : if c = true then A else B := by
  cases c with
  | true => rw [if_pos rfl]; exact h rfl
  | false => rw [if_neg Bool.false_ne_true]; exact h2 rfl
theorem len_cps (t : Str) : t.cps.toList.length = t.length := by simp [Str.length]
theorem small_line {n : Nat} (h : n ≤ 1000) : n ≤ sizeLine := Nat.le_trans h (by decide)
end Y
set_option Elab.async false
set_option linter.all false
set_option maxRecDepth 100000
set_option maxHeartbeats 2000000
namespace Y
open PySem PySem.Spec PyProof.Rows L2
/-! ### walks over a variable that holds a list or a tuple, whichever it is -/
abbrev SqA (K : PySem.W.Frag) (H : Hp) (a : Addr) (xs : List V) : Prop := SqL K H a xs ∨ SqT K H a xs
theorem Same.refl' (H : Hp) : Same H H := fun _ _ h => h
theorem Same.seqA {K : PySem.W.Frag} {H H' : Hp} {a : Addr} {xs : List V} (e : Same H H') (h : SqA K H a xs) : SqA K H' a xs := h.imp e.seq (Same.seqT e)
theorem walk_enumT {K : PySem.W.Frag} {a : Addr} {xs : List V} : Walk (IteT K a) xs.length (fun H => SqT K H a xs) (YPair (fun i => some (.int (i : Nat))) (fun i => xs[i]?)) := by
  refine ⟨fun i _ hi q => ⟨xs, xs[i], q, by simp [hi]⟩, fun _ q => ⟨xs, q, rfl⟩, fun i H v H' _ q y => ?_⟩
  obtain ⟨T, x, e1, e2, e3, h⟩ := y
  exact ⟨T, _, x, e1, e2, e3, rfl, h xs q⟩
theorem walk_revT {K : PySem.W.Frag} {a : Addr} {xs : List V} : Walk (RT.ItvT K a xs.length) xs.length (fun H => SqT K H a xs) (fun i H x H' => H' = H ∧ xs[xs.length - 1 - i]? = some x) :=
  ⟨fun i _ hi q => ⟨hi, xs, xs[xs.length - 1 - i]'(by omega), q, by simp [show xs.length - 1 - i < xs.length by omega]⟩, fun _ _ => Nat.le_refl _, fun _ _ _ _ _ q y => ⟨y.1, y.2 xs q⟩⟩
def YRev (xs : List V) : Nat → Hp → V → Hp → Prop := fun i H x H' => H' = H ∧ xs[xs.length - 1 - i]? = some x
def YEnum (xs : List V) : Nat → Hp → V → Hp → Prop := YPair (fun i => some (.int (i : Nat))) (fun i => xs[i]?)
def iAnyV (K : PySem.W.Frag) (i : Nat) (Y : List V → Nat → Hp → V → Hp → Prop) : TI := fun σ H R => ∃ (a : Addr) (xs : List V) (H0 : Hp), σ[i]? = some (some (.ref a)) ∧ SqA K H0 a xs ∧ Kp H0 H ∧ ∀ (J : It) (G : Hp → Prop), Walk J xs.length G (Y xs) → (∀ H', Kp H0 H' → G H') → R J H
section
variable {X : Cx} {e : Expr} {i : Nat} {p pos tpos : Pos}
theorem pi_enumV {elts : List Expr} {kk : Nat} (hg : Gl X "enumerate") (hm : X.mg "enumerate" = none) (he : PE X e (tVar i)) (hs : starEach [e] X.env = (false, eval e X.env) :: starEach [] X.env := by rfl) : PI X (.Tuple elts kk tpos) (.Call (.Name "enumerate" p) [e] [] pos) (iAnyV X.K i YEnum) := by
  refine ⟨fun pins s σ H R I h => ?_⟩
  obtain ⟨a, xs, H0, hv, c, kp, k⟩ := h
  rcases c with c | c
  · exact (pi_enum (elts := elts) (kk := kk) (tpos := tpos) (p := p) (pos := pos) hg hm (pa_cons he pa_nil hs) (hs.trans rfl)).run pins s σ H R I ⟨_, hv, a, xs, rfl, kp.seqL c, k _ _ walk_enum fun H' s => s.seqL c⟩
  · exact (pi_enumT (elts := elts) (kk := kk) (tpos := tpos) (p := p) (pos := pos) hg hm (pa_cons he pa_nil hs) (hs.trans rfl)).run pins s σ H R I ⟨_, hv, a, xs, rfl, kp.seqT c, k _ _ walk_enumT fun H' s => s.seqT c⟩
theorem pi_revV {tg : Expr} (hg : Gl X "reversed") (hm : X.mg "reversed" = none) (he : PE X e (tVar i)) (hs : starEach [e] X.env = (false, eval e X.env) :: starEach [] X.env := by rfl) : PI X tg (.Call (.Name "reversed" p) [e] [] pos) (iAnyV X.K i YRev) := by
  refine ⟨fun pins s σ H R I h => ?_⟩
  obtain ⟨a, xs, H0, hv, c, kp, k⟩ := h
  refine (RT.pi_revA (p := p) (pos := pos) hg hm he hs).run pins s σ H R I ⟨_, hv, a, xs, rfl, ?_⟩
  exact c.imp (fun c => ⟨kp.seqL c, k _ _ walk_rev fun H' s => s.seqL c⟩) fun c => ⟨kp.seqT c, k _ _ walk_revT fun H' s => s.seqT c⟩
theorem pi_seqV {tg : Expr} (he : PE X e (tVar i)) : PI X tg e (iAnyV X.K i YAt) := by
  refine ⟨fun pins s σ H R I h => ?_⟩
  obtain ⟨a, xs, H0, hv, c, kp, k⟩ := h
  rcases c with c | c
  · exact (pi_list (tg := tg) he).run pins s σ H R I ⟨_, hv, a, rfl, ⟨_, kp.seqL c⟩, k _ _ walk_list fun H' s => s.seqL c⟩
  · exact (pi_tup (tg := tg) he).run pins s σ H R I ⟨_, hv, a, rfl, ⟨_, kp.seqT c⟩, k _ _ walk_tup fun H' s => s.seqT c⟩
end
/-- tuple(xs), a list or a tuple: some tuple of the same -/
def rTupAny (K : PySem.W.Frag) : List V → Hp → VK → Prop := fun xs H Q => ∃ (p : Addr) (ys : List V), xs = [.ref p] ∧ SqA K H p ys ∧ ∀ l H', SqT K H' l ys → Same H H' → Q (.ref l) H'
theorem call_tuple_any {X : Cx} : CallR X (.type "tuple") (rTupAny X.K) := by
  intro pins s σ H xs us Q I r h
  obtain ⟨p, ys, e, h, k⟩ := h
  exact call_tuple_of pins s σ H xs us Q I r ⟨p, ys, e, h.imp (fun h => ⟨h, fun l nl => k l _ (SqT.of upd_same) (Same.new nl)⟩) fun h => ⟨h, k p H h (Same.refl' H)⟩⟩
/-- the same, where the written part is told -/
theorem call_tuple_anyK {X : Cx} {K : PySem.W.Frag} (e : X.K = K) : CallR X (.type "tuple") (rTupAny K) := by
  subst e
  exact call_tuple_any
/-- a comprehension without a trace over any walk -/
theorem lcp_it {J : It} {G : Hp → Prop} {D : Addr} {xs : List V} {g : L2.TG} {te : L2.TE} {vs : List Nat} {σ : L2.St} {H1 : Hp} {Qd : Hp → Prop} {f : V → V} (w : Walk J xs.length G (YAt xs)) (hn : H1 D = none) (hz : xs.length ≤ 1000000) (hG : ∀ H', Kp H1 H' → G H')
    (he : ∀ (i : Nat) (x : V) (H : Hp) (R : VK), xs[i]? = some x → Same H1 H → R (f x) H → g x (wipe σ vs) H fun σ2 H2 => wipe σ2 vs = wipe σ vs ∧ te σ2 H2 R) (hd : Qd (upd H1 D (.lst (xs.map f)))) :
    ∃ W : Nat → Nat → Hp → Prop, (∃ m, W 0 m (upd H1 D (.lst []))) ∧ ∀ i m H, W i m H →
      (J.stop i H ∧ Qd H) ∨ (J.go i H ∧ ∃ Nx : Hp → Prop, (∀ H', Nx H' → ∃ m', m' < m ∧ W (i + 1) m' H') ∧ ∀ x H', J.yld i H x H' → g x (wipe σ vs) H' fun σ2 H2 => wipe σ2 vs = wipe σ vs ∧ tYes σ2 H2 fun b H3 =>
        if b = true then te σ2 H3 fun y H4 => ∃ acc, H4 D = some (.lst acc) ∧ acc.length < sizeLine ∧ Nx (upd H4 D (.lst (acc ++ [y]))) else Nx H3) := by
  refine lc_it w (fun i H => H = upd H1 D (.lst ((xs.take i).map f))) rfl (fun i H _ e => by rw [e]; exact hG _ (Kp.new hn)) (fun i x H H' hi e y => ?_) (fun H e => ?_)
  · subst e
    obtain ⟨rfl, hx⟩ := y
    refine he i x _ _ hx (Y.Same.new hn) ⟨(xs.take i).map f, upd_same, ?_, ?_⟩
    · rw [List.length_map, List.length_take]
      have : sizeLine = 16777216 := sizeLine_eq
      omega
    · rw [upd_upd, take_next hx, List.map_append]
      rfl
  · rw [e, List.take_length]
    exact hd
end Y
set_option Elab.async false
set_option linter.all false
set_option maxRecDepth 100000
set_option maxHeartbeats 2000000
namespace Y
open PySem PySem.Spec PyProof.Rows L2
/-! ### a, b, .. = x, x a list or a tuple -/
def gAny (K : PySem.W.Frag) (n : Nat) (t : TGs) : L2.TG := fun v σ H Q => ∃ a xs, v = .ref a ∧ SqA K H a xs ∧ xs.length = n ∧ t xs σ H Q
theorem pg_any {X : Cx} {K : PySem.W.Frag} {es : List Expr} {k : Nat} {t : TGs} {n : Nat} {pos : Pos} (eK : X.K = K) (hc : X.calm = true) (h : PGs X es t) (hn : (assignEach es X.env).length = n) (hst : (assignEach es X.env).findIdx? (·.1) = none) : PG X (.Tuple es k pos) (gAny K n t) := by
  subst eK
  refine ⟨fun pins s σ H v u Q I r hw => ?_⟩
  obtain ⟨a, xs, e1, hq, hl, hw⟩ := hw
  rcases hq with hq | hq
  · exact (pg_lst (k := k) (pos := pos) hc h hn hst).run pins s σ H v u Q I r ⟨a, xs, e1, hq, hl, hw⟩
  · exact (pg_tup (k := k) (pos := pos) hc h hn hst).run pins s σ H v u Q I r ⟨a, xs, e1, hq, hl, hw⟩
theorem pi_tupK {X : Cx} {K : PySem.W.Frag} {tg l : Expr} {tl : TE} (eK : X.K = K) (hl : PE X l tl) : PI X tg l (iTup K tl) := by
  subst eK
  exact pi_tup hl
/-- a walk's turns, whatever is done in each -/
theorem walk_w {J : It} {n : Nat} {G : Hp → Prop} {Y : Nat → Hp → V → Hp → Prop} (w : Walk J n G Y) (Pv : Nat → Hp → Prop) {H0 : Hp} (h0 : Pv 0 H0) (hG : ∀ i H, i ≤ n → Pv i H → G H) {Body : V → Hp → (Hp → Prop) → Prop} {Done : Hp → Prop}
    (hs : ∀ i x H H', i < n → Pv i H → Y i H x H' → Body x H' (Pv (i + 1))) (hd : ∀ H, Pv n H → Done H) :
    ∃ W : Nat → Nat → Hp → Prop, (∃ m, W 0 m H0) ∧ ∀ i m H, W i m H → (J.stop i H ∧ Done H) ∨ (J.go i H ∧ ∃ Nx : Hp → Prop, (∀ H', Nx H' → ∃ m', m' < m ∧ W (i + 1) m' H') ∧ ∀ x H', J.yld i H x H' → Body x H' Nx) := by
  refine ⟨fun i m H => m = n - i ∧ i ≤ n ∧ Pv i H, ⟨n, by simp, Nat.zero_le _, h0⟩, ?_⟩
  rintro i m H ⟨rfl, hi, p⟩
  have q := hG i H hi p
  by_cases hlt : i < n
  · exact .inr ⟨w.goes i H hlt q, Pv (i + 1), fun H' p' => ⟨n - (i + 1), by omega, rfl, hlt, p'⟩, fun x H' y => hs i x H H' hlt p (w.yields i H x H' hlt q y)⟩
  · have e : i = n := by omega
    subst e
    exact .inl ⟨w.stops H q, hd H p⟩
end Y
set_option Elab.async false
set_option linter.all false
set_option maxRecDepth 100000
set_option maxHeartbeats 4000000
namespace PySem
open Sem (wp)
open AutoSeq1 (wpAny_loadPart')
abbrev kwS (k : Int) (t : Tok) : List (Str × Value) := [(Str.ofString "start", .int k t)]
abbrev itOb (T : String) (l : Addr) : Obj := { cls := .type T, data := .fields #[.ref l, .int 0 0] }
abbrev enOb (a : Addr) (k : Int) : Obj := { cls := .type "enumerate", data := .fields #[.none, .bool false, .ref a, rawInt k, .none, .none] }
theorem meets_enumST (l : Addr) (items : Array Value) (n : Nat) (dct : Option Addr) (sl : Array (Option Value)) (t : Tok) :
    Meets (Builtin.«enumerate.__new__» ⟨[.type "enumerate", .ref l], kwS 1 t⟩) (fun _ R s => s.heap.get? l = some { cls := .type "tuple", dict := dct, data := .seq items n, slots := sl } ∧
      R (.ok (.ret (.ref (s.heap.push (itOb "tuple_iterator" l)).objs.size))) { s with heap := (s.heap.push (itOb "tuple_iterator" l)).push (enOb s.heap.objs.size 1) }) :=
  .of_wp fun prog w A R s h => by
    obtain ⟨hp, g, d, tk, os⟩ := s; obtain ⟨hl, h⟩ := h
    have hsub := sub_enumerate
    have hL : Heap.IsTuple (Shared.heap ⟨hp, g, d, tk, os⟩) l items := ⟨_, hl, rfl, n, rfl⟩
    wp_walk using wpAny_loadPart' hl
    refine wpAny_stack_any fun st => wpAny_pure ?_
    split
    · rename_i c _ _ _ _ _
      cases (c == Value.type "enumerate")
      · wp_walk using wpAny_loadPart' hl, wpAny_pyIter_tuple hL
        exact ⟨_, rfl, h⟩
      · wp_walk using wpAny_loadPart' hl, wpAny_pyIter_tuple hL
        exact ⟨_, rfl, h⟩
    · wp_walk using wpAny_loadPart' hl, wpAny_pyIter_tuple hL
      exact ⟨_, rfl, h⟩
theorem meets_enumSL (l : Addr) (items : Array Value) (n : Nat) (dct : Option Addr) (sl : Array (Option Value)) (t : Tok) :
    Meets (Builtin.«enumerate.__new__» ⟨[.type "enumerate", .ref l], kwS 1 t⟩) (fun _ R s => s.heap.get? l = some { cls := .type "list", dict := dct, data := .seq items n, slots := sl } ∧
      R (.ok (.ret (.ref (s.heap.push (itOb "list_iterator" l)).objs.size))) { s with heap := (s.heap.push (itOb "list_iterator" l)).push (enOb s.heap.objs.size 1) }) :=
  .of_wp fun prog w A R s h => by
    obtain ⟨hp, g, d, tk, os⟩ := s; obtain ⟨hl, h⟩ := h
    have hsub := sub_enumerate
    have hL : Heap.IsList (Shared.heap ⟨hp, g, d, tk, os⟩) l items := ⟨_, hl, rfl, n, rfl⟩
    wp_walk using wpAny_loadPart' hl
    refine wpAny_stack_any fun st => wpAny_pure ?_
    split
    · rename_i c _ _ _ _ _
      cases (c == Value.type "enumerate")
      · wp_walk using wpAny_loadPart' hl, wpAny_pyIter_list hL
        exact ⟨_, rfl, h⟩
      · wp_walk using wpAny_loadPart' hl, wpAny_pyIter_list hL
        exact ⟨_, rfl, h⟩
    · wp_walk using wpAny_loadPart' hl, wpAny_pyIter_list hL
      exact ⟨_, rfl, h⟩
theorem tyCall_kw (l : Addr) (t : Tok) : checkTypeCall "enumerate" ⟨[.ref l], kwS 1 t⟩ = pure () := by kernel_rfl
theorem newCall_kw (l : Addr) (t : Tok) : checkBuiltinCall "enumerate.__new__" ⟨[.type "enumerate", .ref l], kwS 1 t⟩ = pure () := by kernel_rfl
theorem init_kw (o : Value) (l : Addr) (t : Tok) : argsOk "object.__init__" ⟨[o, .ref l], kwS 1 t⟩ := by
  unfold argsOk
  rw [signature?_of (id := "object.__init__") (n := ['_', '_', 't', 'i', 'n', 'i', '_', '_']) (o := ['t', 'c', 'e', 'j', 'b', 'o']) (by kernel_rfl) F.owner_object]
  kernel_rfl
section
variable {prog : Program} {w : World} {A : Around} {E : Value → Shared → Prop} {s : Shared}
theorem init_meets_kw (l : Addr) (t : Tok) (o : Value) : Meets (Builtin.«object.__init__» ⟨[o, .ref l], kwS 1 t⟩) (fun _ R s => s.TypeIs o "enumerate" ∧ R (.ok (.ret .none)) s) := by
  refine Meets.of_wp fun prog w A R s hs => ?_
  obtain ⟨hT, hq⟩ := hs
  have hl := F.called_enumerate.init.lookup
  have hm := F.called_enumerate.made
  have hne : (some "enumerate.__new__" != some "object.__new__") = true := by decide
  repeat (any_goals (first | assumption | wp_step))
  exact ⟨_, rfl, hq⟩
theorem call_enum_kw {l : Addr} {t : Tok} {S : Spec} {Q : Value → Shared → Prop} (g : Meets (Builtin.«enumerate.__new__» ⟨[.type "enumerate", .ref l], kwS 1 t⟩) S) (h : S A.in1 (wants (fun o s₁ => s₁.TypeIs o "enumerate" ∧ Q o s₁) E) s) :
    wpAny (model prog w) A (call (.type "enumerate") [.ref l] (kwS 1 t)) Q E s := by
  obtain ⟨c, tl, hmro⟩ := F.called_enumerate.mro
  have hmade := F.called_enumerate.made
  have hsub := F.called_enumerate.sub
  refine wpAny_call (codeAny_of_tree ?_)
  show wpAny _ _ (callAny (.type "enumerate") _) _ _ _
  refine wpAny_pure ⟨Code.quiet_builtin _ (by decide +kernel), codeAny_builtin F.entry_type_call ?_⟩
  rw [Around.under_plain (weight_type_call_type "enumerate" [.ref l] (kwS 1 t)) (units_type_call_type "enumerate" [.ref l] (kwS 1 t))]
  have h1 := F.called_enumerate.notType
  have h2 := F.called_enumerate.canCreate
  have hct := tyCall_kw l t
  have hcn := newCall_kw l t
  repeat (any_goals (first | assumption | wp_step))
  refine codeAny_mono (codeAny_call_builtin F.called_enumerate.plain F.entry_enumerate_new (wpAny_of_eq hcn (g prog w A.in1 _ s h))) fun r s₁ hr => ?_
  cases r with
  | error e => exact hr
  | ok fl =>
    cases fl with
    | ret obj =>
      obtain ⟨hT, hq⟩ := hr
      have hli := F.called_enumerate.init.lookup
      have hbi := F.called_enumerate.init.bind obj
      repeat (any_goals (first | assumption | wp_step))
      have step : codeAny (model prog w) A.in1 (.call (.builtin "object.__init__") ⟨[obj, .ref l], kwS 1 t⟩) (fun r s' => match r with | .ok (.ret v) => v = .none ∧ Q obj s' | .ok _ => False | .error e => E e s') s₁ :=
        codeAny_call_builtin F.called_enumerate.init.plain F.entry_object_init (F.called_enumerate.init.check _ _ _ _ _ _ _ _ hT (init_kw obj l t) (init_meets_kw l t obj prog w A.in1 (fun r s' => match r with | .ok (.ret v) => v = .none ∧ Q obj s' | .ok _ => False | .error e => E e s') s₁ ⟨hT, rfl, hq⟩))
      refine codeAny_mono step fun r₂ s₂ hr₂ => ?_
      cases r₂ with
      | error e => exact hr₂
      | ok fl₂ =>
        cases fl₂ with
        | ret r =>
          obtain ⟨rfl, hq⟩ := hr₂
          repeat (any_goals (first | assumption | wp_step))
        | _ => exact hr₂.elim
    | _ => exact hr.elim
end
end PySem
set_option Elab.async false
set_option linter.all false
set_option maxRecDepth 100000
set_option maxHeartbeats 4000000
namespace PySem
theorem Draws.later {prog : Program} {w : World} {A : Around} {it : Addr} {fp : List Addr} {n : Nat} {P : Nat → Value → Prop} {St : Nat → Heap → Prop} (D : Draws prog w A it fp n P St) : Draws prog w A it fp (n + 1) (fun i v => P (i - 1) v) (fun i h => 1 ≤ i ∧ St (i - 1) h) where
  live := fun _ _ st => D.live _ _ st.2
  frame := fun _ _ _ st k => ⟨st.1, D.frame _ _ _ st.2 k⟩
  item := fun i s Q E hi st hQ => D.item (i - 1) s Q E (by have := st.1; omega) st.2 fun x h' tk p st' sb => hQ x h' tk p ⟨by omega, by have := st.1; rw [show i + 1 - 1 = i - 1 + 1 by omega]; exact st'⟩ sb
  done := fun s Q E st hE => D.done s Q E (by simpa using st.2) hE
section
variable {M : Model} {A : Around} {E : Value → Shared → Prop} {s : Shared} {env : Env}
/-- a call of a built-in class with keywords -/
theorem callWith_tyKw {pos : Pos} {T : String} {e : Expr} {rest : List Expr} {kws : List Keyword} {Q : Value → Shared → Prop}
    (h : wpAny M A (spliced (backTo pos (starEach (e :: rest) env))) (fun vs s₁ => wpAny M A (evalAll ((backToKw pos (keywordEach kws env)).map (·.2)))
      (fun ks s₂ => wpAny M A (call (.type T) vs (((backToKw pos (keywordEach kws env)).filterMap (·.1)).zip ks)) Q E s₂) E s₁) E s)
    (he : backTo pos (starEach (e :: rest) env) = (false, eval e env) :: backTo pos (starEach rest env) := by rfl)
    (plain : (backTo pos (starEach (e :: rest) env)).any (·.1) = false := by rfl) (named : (backToKw pos (keywordEach kws env)).all (·.1.isSome) = true := by rfl) (none' : (backToKw pos (keywordEach kws env)).any (·.1.isNone) = false := by rfl) :
    wpAny M A (callWith pos (.type T) [] (backTo pos (starEach (e :: rest) env)) (backToKw pos (keywordEach kws env))) Q E s := by
  have args : wpAny M A (evalArgs (.type T) true (backTo pos (starEach (e :: rest) env)) (backToKw pos (keywordEach kws env))) (fun a s₁ => wpAny M A (call (.type T) ([] ++ a.pos) a.kw) Q E s₁) E s := by
    rw [he] at h ⊢
    exact PyProof.Rows.evalArgs_kwB named h
  unfold callWith
  refine wpAny_bind (wpAny_holding (wpAny_mono args (fun a s₁ h₁ => wpAny_bind (wpAny_standAt ?_)) fun _ _ z => z))
  simp only [plain, none', Bool.or_self]
  refine wpAny_bind (wpAny_pure (wpAny_bind (wpAny_mono h₁ (fun r s₂ hr => wpAny_bind (wpAny_holding (wpAny_point (wpAny_pure hr)))) fun _ _ z => z)))
end
end PySem
namespace L2
open PySem PySem.Spec PyProof.Rows
/-- the tuple at a, each item in a new pair, numbered from 1 on -/
def IteST (K : PySem.W.Frag) (a : Addr) : It :=
  ⟨fun i H => ∃ (xs : List V) (x : V), SqT K H a xs ∧ xs[i]? = some x, fun i H v H' => ∃ T x, v = .ref T ∧ H T = none ∧ H' = upd H T (.tup [.int ((i + 1 : Nat) : Int), x]) ∧ ∀ xs, SqT K H a xs → xs[i]? = some x, fun i H => ∃ xs : List V, SqT K H a xs ∧ xs.length = i⟩
theorem turn_enumST {P : Program} {w : World} {K : PySem.W.Frag} {elts : List Expr} {kk : Nat} {tpos : Pos} (a e it : Addr) :
    Turn P w K (.Tuple elts kk tpos) (IteST K a) [e, it] e (fun i h => (∃ old, IsEnum h e it ((i + 1 : Nat) : Int) old) ∧ h.IsTupleIter it a i ∧ e ≠ it ∧ a ≠ it ∧ a ≠ e) where
  mem := by simp
  obj := fun i h st b hb => by
    obtain ⟨⟨old, he⟩, ⟨o, ho, hc, hd⟩, _⟩ := st
    rcases (show b = e ∨ b = it by simpa using hb) with z | z
    · rw [z]; exact ⟨_, he, fun v q => nomatch q⟩
    · rw [z]; exact ⟨o, ho, fun v q => by rw [hd] at q; cases q⟩
  keep := fun i h h' st k => let ⟨⟨old, he⟩, ⟨o, ho, hr⟩, hne⟩ := st; ⟨⟨old, k e (by simp) _ he⟩, ⟨o, k it (by simp) _ ho, hr⟩, hne⟩
  item := by
    intro X hP hw hK hc i pins s σ H E I hf st hg
    subst hP hw hK
    obtain ⟨⟨old, he⟩, hit, hne, hai, hae⟩ := st
    obtain ⟨xs, x, hq, hx⟩ := hg
    obtain ⟨its, rv, p, hz⟩ := I.tuple hq
    obtain ⟨u, hu, ru⟩ := rv.get hx
    have hel : e < s.heap.objs.size := Heap.lt_size he
    have hil : it < s.heap.objs.size := by obtain ⟨_, q, _⟩ := hit; exact Heap.lt_size q
    have hu' : its.toArray[i]? = some u := by simpa using hu
    have hlt : i < its.toArray.size := by
      rcases Nat.lt_or_ge i its.toArray.size with h | h
      · exact h
      · rw [Array.getElem?_eq_none h] at hu'; cases hu'
    refine wpAny_pyNext_enum_itemD (i := i + 1) (Draws.tuple (A := X.A.in1) (I.ok.hd hc) it a hai its.toArray).later he ⟨by omega, hit, p⟩ (by omega) hne (by simp [hne, Ne.symm hae]) fun v h' tk hv ho hst hT hsz hk => ?_
    obtain rfl : v = u := by
      rw [show i + 1 - 1 = i by omega, hu'] at hv
      exact (Option.some.inj hv).symm
    refine ⟨_, rfl, wpAny_letOwnedTupleGo_enum (s := { s with heap := h', toks := tk + 1 }) ho fun h'' he' sb => ?_⟩
    have hT2 : h''.get? s.heap.objs.size = some { cls := .type "tuple", data := .seq #[.int ((i + 1 : Nat) : Int) tk, v] } := (sb.2 _ (Nat.ne_of_gt hel)).trans hT
    have new : ObjOk X.prog X.w (upd H s.heap.objs.size (.tup [.int ((i + 1 : Nat) : Int), x])) h'' s.heap.objs.size (.tup [.int ((i + 1 : Nat) : Int), x]) :=
      ⟨by show 2 ≤ sizeLine; decide, [.int ((i + 1 : Nat) : Int) tk, v], .cons ⟨_, rfl⟩ (.cons ru .nil), ⟨_, hT2, rfl, _, rfl⟩⟩
    have I1 : Inv X pins σ (upd H s.heap.objs.size (.tup [.int ((i + 1 : Nat) : Int), x])) { s with heap := h'', toks := tk + 1 } :=
      I.turnedNew (ch := [e, it]) (fun b ob hb q => (sb.2 b (fun z => hb (by simp [z]))).trans (hk b ob (fun z => hb (by simp [z])) (fun z => hb (by simp [z])) q)) hf (Nat.le_refl _) new
    refine ⟨.ref s.heap.objs.size, _, I1, rfl, ⟨_, x, rfl, I.hok.fresh (Nat.le_refl _), rfl, fun ys hy => by rw [I.tuple_inj hy hq]; exact hx⟩, ⟨⟨v, ?_⟩, ?_, hne, hai, hae⟩, fun b hb => ?_⟩
    · have e1 : ((i + 1 + 1 : Nat) : Int) = ((i + 1 : Nat) : Int) + 1 := by omega
      rw [e1]; exact he'
    · obtain ⟨o, ho2, hr⟩ := hst.2.1
      exact ⟨o, (sb.2 it (Ne.symm hne)).trans ho2, by rw [show i + 1 + 1 - 1 = i + 1 by omega] at hr; exact hr⟩
    · have hb' : b < s.heap.objs.size := by
        rcases (show b = e ∨ b = it by simpa using hb) with z | z
        · rw [z]; exact hel
        · rw [z]; exact hil
      rw [upd_ne (Nat.ne_of_lt hb')]
      exact (hf b hb).1
  done := by
    intro X hP hw hK hc i pins s σ H E I hf st hg
    subst hP hw hK
    obtain ⟨⟨old, he⟩, hit, hne, hai, hae⟩ := st
    obtain ⟨xs, hq, hx⟩ := hg
    obtain ⟨its, rv, p, hz⟩ := I.tuple hq
    obtain ⟨f0, f1, f2, f3, f4, f5⟩ := hf it (by simp)
    have hl := rv.length
    have hi : i = its.toArray.size := by rw [List.size_toArray]; omega
    subst hi
    exact wpAny_pyNext_enum_endD (Draws.tuple (A := X.A.in1) (I.ok.hd hc) it a hai its.toArray) he ⟨hit, p⟩ fun h' eb => ⟨rfl, I.turned (t' := s.toks) (fun b o hb q => eb b o hb q) f0 f1 f3 f4 f5⟩
  self := fun A i s Q E st h => let ⟨⟨_, he⟩, _⟩ := st; wpAny_pyIter_enum he h
/-- the list at a, each item in a new pair, numbered from 1 on -/
def IteSL (K : PySem.W.Frag) (a : Addr) : It :=
  ⟨fun i H => ∃ (xs : List V) (x : V), SqL K H a xs ∧ xs[i]? = some x, fun i H v H' => ∃ T x, v = .ref T ∧ H T = none ∧ H' = upd H T (.tup [.int ((i + 1 : Nat) : Int), x]) ∧ ∀ xs, SqL K H a xs → xs[i]? = some x, fun i H => ∃ xs : List V, SqL K H a xs ∧ xs.length = i⟩
theorem turn_enumSL {P : Program} {w : World} {K : PySem.W.Frag} {elts : List Expr} {kk : Nat} {tpos : Pos} (a e it : Addr) :
    Turn P w K (.Tuple elts kk tpos) (IteSL K a) [e, it] e (fun i h => (∃ old, IsEnum h e it ((i + 1 : Nat) : Int) old) ∧ h.IsListIter it a i ∧ e ≠ it ∧ a ≠ it ∧ a ≠ e) where
  mem := by simp
  obj := fun i h st b hb => by
    obtain ⟨⟨old, he⟩, ⟨o, ho, hc, hd⟩, _⟩ := st
    rcases (show b = e ∨ b = it by simpa using hb) with z | z
    · rw [z]; exact ⟨_, he, fun v q => nomatch q⟩
    · rw [z]; exact ⟨o, ho, fun v q => by rw [hd] at q; cases q⟩
  keep := fun i h h' st k => let ⟨⟨old, he⟩, ⟨o, ho, hr⟩, hne⟩ := st; ⟨⟨old, k e (by simp) _ he⟩, ⟨o, k it (by simp) _ ho, hr⟩, hne⟩
  item := by
    intro X hP hw hK hc i pins s σ H E I hf st hg
    subst hP hw hK
    obtain ⟨⟨old, he⟩, hit, hne, hai, hae⟩ := st
    obtain ⟨xs, x, hq, hx⟩ := hg
    obtain ⟨its, rv, p, hz⟩ := I.list hq
    obtain ⟨u, hu, ru⟩ := rv.get hx
    have hel : e < s.heap.objs.size := Heap.lt_size he
    have hil : it < s.heap.objs.size := by obtain ⟨_, q, _⟩ := hit; exact Heap.lt_size q
    have hu' : its.toArray[i]? = some u := by simpa using hu
    have hlt : i < its.toArray.size := by
      rcases Nat.lt_or_ge i its.toArray.size with h | h
      · exact h
      · rw [Array.getElem?_eq_none h] at hu'; cases hu'
    refine wpAny_pyNext_enum_itemD (i := i + 1) (Draws.list (A := X.A.in1) (I.ok.hd hc) it a hai its.toArray).later he ⟨by omega, hit, p.isList⟩ (by omega) hne (by simp [hne, Ne.symm hae]) fun v h' tk hv ho hst hT hsz hk => ?_
    obtain rfl : v = u := by
      rw [show i + 1 - 1 = i by omega, hu'] at hv
      exact (Option.some.inj hv).symm
    refine ⟨_, rfl, wpAny_letOwnedTupleGo_enum (s := { s with heap := h', toks := tk + 1 }) ho fun h'' he' sb => ?_⟩
    have hT2 : h''.get? s.heap.objs.size = some { cls := .type "tuple", data := .seq #[.int ((i + 1 : Nat) : Int) tk, v] } := (sb.2 _ (Nat.ne_of_gt hel)).trans hT
    have new : ObjOk X.prog X.w (upd H s.heap.objs.size (.tup [.int ((i + 1 : Nat) : Int), x])) h'' s.heap.objs.size (.tup [.int ((i + 1 : Nat) : Int), x]) :=
      ⟨by show 2 ≤ sizeLine; decide, [.int ((i + 1 : Nat) : Int) tk, v], .cons ⟨_, rfl⟩ (.cons ru .nil), ⟨_, hT2, rfl, _, rfl⟩⟩
    have I1 : Inv X pins σ (upd H s.heap.objs.size (.tup [.int ((i + 1 : Nat) : Int), x])) { s with heap := h'', toks := tk + 1 } :=
      I.turnedNew (ch := [e, it]) (fun b ob hb q => (sb.2 b (fun z => hb (by simp [z]))).trans (hk b ob (fun z => hb (by simp [z])) (fun z => hb (by simp [z])) q)) hf (Nat.le_refl _) new
    refine ⟨.ref s.heap.objs.size, _, I1, rfl, ⟨_, x, rfl, I.hok.fresh (Nat.le_refl _), rfl, fun ys hy => by rw [I.list_inj hy hq]; exact hx⟩, ⟨⟨v, ?_⟩, ?_, hne, hai, hae⟩, fun b hb => ?_⟩
    · have e1 : ((i + 1 + 1 : Nat) : Int) = ((i + 1 : Nat) : Int) + 1 := by omega
      rw [e1]; exact he'
    · obtain ⟨o, ho2, hr⟩ := hst.2.1
      exact ⟨o, (sb.2 it (Ne.symm hne)).trans ho2, by rw [show i + 1 + 1 - 1 = i + 1 by omega] at hr; exact hr⟩
    · have hb' : b < s.heap.objs.size := by
        rcases (show b = e ∨ b = it by simpa using hb) with z | z
        · rw [z]; exact hel
        · rw [z]; exact hil
      rw [upd_ne (Nat.ne_of_lt hb')]
      exact (hf b hb).1
  done := by
    intro X hP hw hK hc i pins s σ H E I hf st hg
    subst hP hw hK
    obtain ⟨⟨old, he⟩, hit, hne, hai, hae⟩ := st
    obtain ⟨xs, hq, hx⟩ := hg
    obtain ⟨its, rv, p, hz⟩ := I.list hq
    obtain ⟨f0, f1, f2, f3, f4, f5⟩ := hf it (by simp)
    have hl := rv.length
    have hi : i = its.toArray.size := by rw [List.size_toArray]; omega
    subst hi
    exact wpAny_pyNext_enum_endD (Draws.list (A := X.A.in1) (I.ok.hd hc) it a hai its.toArray) he ⟨hit, p.isList⟩ fun h' eb => ⟨rfl, I.turned (t' := s.toks) (fun b o hb q => eb b o hb q) f0 f1 f3 f4 f5⟩
  self := fun A i s Q E st h => let ⟨⟨_, he⟩, _⟩ := st; wpAny_pyIter_enum he h
theorem walk_enumST {K : PySem.W.Frag} {a : Addr} {xs : List V} : Walk (IteST K a) xs.length (fun H => SqT K H a xs) (YPair (fun i => some (.int ((i + 1 : Nat) : Int))) (fun i => xs[i]?)) := by
  refine ⟨fun i _ hi q => ⟨xs, xs[i], q, by simp [hi]⟩, fun _ q => ⟨xs, q, rfl⟩, fun i H v H' _ q y => ?_⟩
  obtain ⟨T, x, e1, e2, e3, h⟩ := y
  exact ⟨T, _, x, e1, e2, e3, rfl, h xs q⟩
theorem walk_enumSL {K : PySem.W.Frag} {a : Addr} {xs : List V} : Walk (IteSL K a) xs.length (fun H => SqL K H a xs) (YPair (fun i => some (.int ((i + 1 : Nat) : Int))) (fun i => xs[i]?)) := by
  refine ⟨fun i _ hi q => ⟨xs, xs[i], q, by simp [hi]⟩, fun _ q => ⟨xs, q, rfl⟩, fun i H v H' _ q y => ?_⟩
  obtain ⟨T, x, e1, e2, e3, h⟩ := y
  exact ⟨T, _, x, e1, e2, e3, rfl, h xs q⟩
end L2
namespace Y
open PySem PySem.Spec PyProof.Rows L2
def YEnumS (xs : List V) : Nat → Hp → V → Hp → Prop := YPair (fun i => some (.int ((i + 1 : Nat) : Int))) (fun i => xs[i]?)
/-- enumerate(x, start=1), x a variable that holds a list or a tuple -/
theorem pi_enumS {X : Cx} {e : Expr} {i : Nat} {p pos tpos kp cp : Pos} {j : Nat} {elts : List Expr} {kk : Nat} (hg : Gl X "enumerate") (hm : X.mg "enumerate" = none) (he : PE X e (tVar i)) (hs : starEach [e] X.env = (false, eval e X.env) :: starEach [] X.env := by rfl) :
    PI X (.Tuple elts kk tpos) (.Call (.Name "enumerate" p) [e] [⟨some "start", .Constant (.int 1) j cp, kp⟩] pos) (iAnyV X.K i YEnumS) := by
  refine ⟨fun pins s σ H R I h => ?_⟩
  obtain ⟨a, xs, H0, hv, c, kpp, k⟩ := h
  have ha : PA X [e] (tCons (tVar i) tNil) := pa_cons he pa_nil hs
  have hk : PK X [⟨some "start", .Constant (.int 1) j cp, kp⟩] (tCons (tC (.int 1)) tNil) := pk_cons pe_int pk_nil
  refine wpAny_Call_Name_kw (ld_blt I hg hm boot_enumerate (callWith_tyKw (thn (ha.run pos pins s σ H (fun vs H1 => vs = [.ref a] ∧ H1 = H) I ⟨_, hv, rfl, rfl⟩) fun us s1 ⟨vs, H1, I1, r1, e1, e2⟩ => ?_) (by rw [hs]; rfl) (by rw [hs]; rfl)))
  subst e1; subst e2
  refine thn (hk.run pos pins s1 σ H1 (fun ws H2 => ws = [.int 1] ∧ H2 = H1) I1 ⟨rfl, rfl⟩) fun ws s2 ⟨ks, H2, I2, r2, e3, e4⟩ => ?_
  subst e3; subst e4
  obtain ⟨u, rfl, ru⟩ := vals1 r1
  obtain ⟨u2, rfl, t, rfl⟩ := vals1 r2
  cases ru
  show wpAny _ _ (call (.type "enumerate") [.ref a] (kwS 1 t)) _ _ _
  have lower : ∀ {T : String} (hT : T = "list_iterator" ∨ T = "tuple_iterator"), a < s2.heap.objs.size → (s2.heap.push (itOb T a)).objs.size = s2.heap.objs.size + 1 := fun _ _ => Heap.size_push ..
  rcases c with c | c
  · obtain ⟨its, rv, pl, hz⟩ := I2.list (kpp.seqL c)
    obtain ⟨⟨cl, dct, dt, sl⟩, hl, hc, n, hd⟩ := pl.isList
    replace hc : cl = .type "list" := hc
    replace hd : dt = .seq its.toArray n := hd
    subst hc hd
    have hal : a < s2.heap.objs.size := Heap.lt_size hl
    have z1 := lower (.inl rfl) hal
    refine call_enum_kw (meets_enumSL a its.toArray n dct sl t) ⟨hl, ?_⟩
    show _ ∧ _
    have en : ((s2.heap.push (itOb "list_iterator" a)).push (enOb s2.heap.objs.size 1)).get? (s2.heap.objs.size + 1) = some (enOb s2.heap.objs.size 1) := by
      have q := Heap.get?_push_size (s2.heap.push (itOb "list_iterator" a)) (o := enOb s2.heap.objs.size 1) rfl
      rw [z1] at q; exact q
    have hk2 : ∀ b o, s2.heap.get? b = some o → ((s2.heap.push (itOb "list_iterator" a)).push (enOb s2.heap.objs.size 1)).get? b = some o := fun b o z => Heap.get?_push_of_some _ (Heap.get?_push_of_some _ z)
    have itr : ((s2.heap.push (itOb "list_iterator" a)).push (enOb s2.heap.objs.size 1)).get? s2.heap.objs.size = some (itOb "list_iterator" a) := Heap.get?_push_of_some _ (Heap.get?_push_size _ rfl)
    rw [z1]
    refine ⟨⟨_, en, rfl⟩, wpAny_pyIter_enum en ?_⟩
    have I3 : Inv X pins σ H2 { s2 with heap := (s2.heap.push (itOb "list_iterator" a)).push (enOb s2.heap.objs.size 1) } := I2.kept (t' := s2.toks) hk2
    refine ⟨s2.heap.objs.size + 1, [s2.heap.objs.size + 1, s2.heap.objs.size], _, _, H2, rfl, I3, turn_enumSL a (s2.heap.objs.size + 1) s2.heap.objs.size, ⟨⟨.none, en⟩, ⟨_, itr, rfl, rfl⟩, Nat.succ_ne_self _, Nat.ne_of_lt hal, Nat.ne_of_lt (Nat.lt_succ_of_lt hal)⟩, fun b hb => ?_, k _ _ walk_enumSL fun H' s => s.seqL c⟩
    have hle : s2.heap.objs.size ≤ b := by
      rcases (show b = s2.heap.objs.size + 1 ∨ b = s2.heap.objs.size by simpa using hb) with z | z
      · rw [z]; exact Nat.le_add_right _ _
      · rw [z]; exact Nat.le_refl _
    exact I2.fpOk hle (I2.hok.fresh hle)
  · obtain ⟨its, rv, pl, hz⟩ := I2.tuple (kpp.seqT c)
    obtain ⟨⟨cl, dct, dt, sl⟩, hl, hc, n, hd⟩ := pl
    replace hc : cl = .type "tuple" := hc
    replace hd : dt = .seq its.toArray n := hd
    subst hc hd
    have hal : a < s2.heap.objs.size := Heap.lt_size hl
    have z1 := lower (.inr rfl) hal
    refine call_enum_kw (meets_enumST a its.toArray n dct sl t) ⟨hl, ?_⟩
    show _ ∧ _
    have en : ((s2.heap.push (itOb "tuple_iterator" a)).push (enOb s2.heap.objs.size 1)).get? (s2.heap.objs.size + 1) = some (enOb s2.heap.objs.size 1) := by
      have q := Heap.get?_push_size (s2.heap.push (itOb "tuple_iterator" a)) (o := enOb s2.heap.objs.size 1) rfl
      rw [z1] at q; exact q
    have hk2 : ∀ b o, s2.heap.get? b = some o → ((s2.heap.push (itOb "tuple_iterator" a)).push (enOb s2.heap.objs.size 1)).get? b = some o := fun b o z => Heap.get?_push_of_some _ (Heap.get?_push_of_some _ z)
    have itr : ((s2.heap.push (itOb "tuple_iterator" a)).push (enOb s2.heap.objs.size 1)).get? s2.heap.objs.size = some (itOb "tuple_iterator" a) := Heap.get?_push_of_some _ (Heap.get?_push_size _ rfl)
    rw [z1]
    refine ⟨⟨_, en, rfl⟩, wpAny_pyIter_enum en ?_⟩
    have I3 : Inv X pins σ H2 { s2 with heap := (s2.heap.push (itOb "tuple_iterator" a)).push (enOb s2.heap.objs.size 1) } := I2.kept (t' := s2.toks) hk2
    refine ⟨s2.heap.objs.size + 1, [s2.heap.objs.size + 1, s2.heap.objs.size], _, _, H2, rfl, I3, turn_enumST a (s2.heap.objs.size + 1) s2.heap.objs.size, ⟨⟨.none, en⟩, ⟨_, itr, rfl, rfl⟩, Nat.succ_ne_self _, Nat.ne_of_lt hal, Nat.ne_of_lt (Nat.lt_succ_of_lt hal)⟩, fun b hb => ?_, k _ _ walk_enumST fun H' s => s.seqT c⟩
    have hle : s2.heap.objs.size ≤ b := by
      rcases (show b = s2.heap.objs.size + 1 ∨ b = s2.heap.objs.size by simpa using hb) with z | z
      · rw [z]; exact Nat.le_add_right _ _
      · rw [z]; exact Nat.le_refl _
    exact I2.fpOk hle (I2.hok.fresh hle)
end Y
set_option Elab.async false
set_option linter.all false
set_option maxRecDepth 100000
set_option maxHeartbeats 2000000
namespace Y
open PySem PySem.Spec PyProof.Rows L2
/-! ### own errors: made with one, two or three fields by their own first method -/
structure XcC (K : PySem.W.Frag) (C : Addr) : Prop where
  o : OexC K C
  x : XfC K C
  sf : PySem.W.subIn K (.ref C) (.ref C) = some true
  isC : PySem.W.isClsIn K C = true
/-- the promise of such a method: each field is kept under its name -/
def spX1 (C : Addr) (f : Str) : Sp := fun vs H Q _ => ∃ (a : Addr) (v : V), vs = [.ref a, v] ∧ H a = some (exo a C none) ∧
  ∀ dx, H dx = none → dx ≠ a → Q .non (upd (upd H dx (exd dx [(f, v)])) a (exo a C (some dx)))
/-- what C(v) asks, when C's first method keeps spX1 -/
theorem mk1 {C : Addr} {f : Str} {v : V} {H1 : Hp} {Q : XK} (h : ∀ (d : Addr) (H' : Hp), Same H1 H' → H1 d = none → H' d = some (.xd [(f, v)]) → Q (.ref C) (some d) H') :
    ([v] : List V).length ≤ 1000 ∧ ∀ a, H1 a = none → spX1 C f (.ref a :: ([v] ++ [])) (upd H1 a (exo a C none))
      (fun u H2 => u = .non ∧ ∃ (d : Addr) (fs : List (Str × V)), H2 a = some (exo a C (some d)) ∧ H2 d = some (exd d fs) ∧ H1 d = none ∧ Q (.ref C) (some d) (upd (del H2 a) d (.xd fs))) (fun _ _ _ => False) := by
  refine ⟨by show 1 ≤ 1000; decide, fun a ha => ⟨a, v, rfl, upd_same, fun dx hd hne => ⟨rfl, dx, [(f, v)], upd_same, by rw [upd_ne hne]; exact upd_same, by rw [upd_ne hne] at hd; exact hd, ?_⟩⟩⟩
  have hd1 : H1 dx = none := by rw [upd_ne hne] at hd; exact hd
  refine h dx _ (fun b o e => ?_) hd1 upd_same
  have n1 : b ≠ dx := ne_of_none e hd1
  have n2 : b ≠ a := ne_of_none e ha
  rw [upd_ne n1, del_ne n2, upd_ne n2, upd_ne n1, upd_ne n2]
  exact e
/-! ### isinstance of the caught error, which has fields -/
structure XiC (K : PySem.W.Frag) (C : Addr) : Prop where
  k0 : (PySem.W.clsIn K C).isSome = true
  k4 : PySem.W.findIn K (.ref C) "__getattribute__" = some (some (.builtin "BaseException.__getattribute__"))
  k5 : PySem.W.findIn K (.ref C) "__getattr__" = some none
  k6 : PySem.W.subIn K (.ref C) (.type "BaseException") = some true
  k7 : PySem.W.findIn K (.ref C) "__class__" = some (some (.builtin "object.__class__"))
  k8 : PySem.W.specialIn K (.builtin "object.__class__") "__get__" = some (some (.builtin "getset_descriptor.__get__"))
  k9 : PySem.W.takesIn K (.builtin "object.__class__") = some true
  k10 : PySem.W.mroIn K C (.type "object") = some true
def rIsX (K : PySem.W.Frag) (C a : Addr) (cls : Value) (d : Option Addr) : List V → Hp → VK → Prop := fun xs H Q => ∃ (c : V) (u : Value) (b : Bool) (dd : Addr) (fs : List (Str × V)), xs = [.ref a, c] ∧ ClsV c u ∧ cls = .ref C ∧ d = some dd ∧ H dd = some (.xd fs) ∧
  PySem.W.kitOne K (.ref C) u = some b ∧ Q (.bl b) H
theorem call_isX {X : Cx} {a C : Addr} {cls : Value} {d : Option Addr} {oe : Obj} {pn : List (Addr × Obj)} (T : XiC X.K C) (hz : Zc cls d oe) (hf : ∃ vs, oe.data = .fields vs) :
    CallR (X.suite a ((a, oe) :: pn)) (.builtin "isinstance") (rIsX X.K C a cls d) := by
  intro pins s σ H xs us Q I r h
  obtain ⟨c, u, b, dd, fs, rfl, k, rfl, rfl, ea, e, q⟩ := h
  cases r with
  | cons rx rr =>
    cases rr with
    | cons rt rr =>
      cases rr
      cases rx
      cases k.eq rt
      have hpin := (I.pin (a, oe) (List.mem_append.mpr (Or.inl List.mem_cons_self))).1
      obtain ⟨mA, hns, _⟩ := (show ObjOk X.prog X.w H s.heap dd (.xd fs) from I.hok dd _ ea)
      obtain ⟨od, ho, _⟩ := lookIn_ns hns
      obtain ⟨vs, hv⟩ := hf
      have J : PySem.W.InstAt s.heap a oe C (some od) := ⟨hpin, hz.1, by unfold PySem.W.notCls; rw [hv] <;> rfl, by rw [hz.2]; exact ho⟩
      exact PySem.W.kia_one (PySem.W.kitx_exc T.k0 T.k4 T.k5 T.k6 T.k7 T.k8 T.k9 T.k10) I.kIn J e (fun w => nomatch w) fun tk => ⟨.bl b, H, I.kept (t' := tk) fun _ _ w => w, rfl, q⟩
end Y
set_option Elab.async false
set_option linter.all false
set_option maxRecDepth 100000
set_option maxHeartbeats 2000000
/-! repr() of any data of None, bools, ints, texts, lists, tuples, empty dicts, where no repr is under way -/
namespace Y
open PySem PySem.Spec PyProof.Rows L2
mutual
/-- x is the data d: an empty dict may stand in it, too -/
inductive Dq (K : PySem.W.Frag) (H : Hp) : PyData → V → Prop
  | non : Dq K H .none .non
  | bl (b : Bool) : Dq K H (.bool b) (.bl b)
  | int (i : Int) : Dq K H (.int i) (.int i)
  | str (x : Str) : Dq K H (.str x) (.str x)
  | lst {ds : List PyData} {a : Addr} {xs : List V} : SqL K H a xs → Dqs K H ds xs → Dq K H (.list ds) (.ref a)
  | tup {ds : List PyData} {a : Addr} {xs : List V} : SqT K H a xs → Dqs K H ds xs → Dq K H (.tuple ds) (.ref a)
  | dct {a : Addr} : H a = some (.dK []) → Dq K H (.dict []) (.ref a)
inductive Dqs (K : PySem.W.Frag) (H : Hp) : List PyData → List V → Prop
  | nil : Dqs K H [] []
  | cons {d : PyData} {ds : List PyData} {v : V} {vs : List V} : Dq K H d v → Dqs K H ds vs → Dqs K H (d :: ds) (v :: vs)
end
mutual
/-- no list stands in it -/
def unlisted : PyData → Bool
  | .list _ => false
  | .tuple xs => unlisteds xs
  | _ => true
def unlisteds : List PyData → Bool
  | [] => true
  | x :: xs => unlisted x && unlisteds xs
end
section
variable {X : Cx} {pins : List (Addr × Obj)} {σ : L2.St} {H : Hp} {s : Shared}
mutual
theorem Dq.look (I : Inv X pins σ H s) : ∀ (d : PyData) (v : V) (u : Value), Dq X.K H d v → RelV v u → ∃ as, Reads s.heap u d as ∧ (unlisted d = true → sysModules ∉ as)
  | .none, _, _, h, r => by cases h; cases r; exact ⟨_, .none, fun _ z => by cases z⟩
  | .bool b, _, _, h, r => by cases h; cases r; exact ⟨_, .bool b, fun _ z => by cases z⟩
  | .int i, _, _, h, r => by cases h; obtain ⟨t, rfl⟩ := r; exact ⟨_, .int i t, fun _ z => by cases z⟩
  | .str x, _, _, h, r => by cases h; obtain ⟨t, rfl⟩ := r; exact ⟨_, .str x t, fun _ z => by cases z⟩
  | .list ds, _, _, h, r => by
    cases h with
    | lst hs ha =>
      cases r
      obtain ⟨its, rv, ⟨o, n, ho, hc, _, hd⟩, _⟩ := I.list hs
      obtain ⟨as, hr, _⟩ := Dqs.look I ds _ its ha rv
      exact ⟨_, .list ho hc hd hr, fun z => by simp [unlisted] at z⟩
  | .tuple ds, _, _, h, r => by
    cases h with
    | tup hs ha =>
      cases r
      obtain ⟨its, rv, ⟨o, ho, hc, n, hd⟩, _⟩ := I.tuple hs
      obtain ⟨as, hr, hn⟩ := Dqs.look I ds _ its ha rv
      exact ⟨_, .tuple ho hc hd hr, fun z => hn (by simpa [unlisted] using z)⟩
  | .dict kvs, _, _, h, r => by
    cases h with
    | @dct a ea =>
      cases r
      obtain ⟨_, na, vs, kv, o, es, ep, ho, ex, hd, _, he, _⟩ := (show ObjOk X.prog X.w H s.heap a (.dK []) from I.hok a _ ea)
      cases kv
      have e0 : es.toList = [] := by
        generalize es.toList = l at he
        cases he
        rfl
      exact ⟨_, .dict ho ex.1 hd (by rw [e0]; exact .nil) (by rw [e0]; exact .nil), fun _ z => by simp at z; rw [z] at na; simp at na⟩
theorem Dqs.look (I : Inv X pins σ H s) : ∀ (ds : List PyData) (vs : List V) (us : List Value), Dqs X.K H ds vs → Vals vs us → ∃ as, ReadsAll s.heap us ds as ∧ (unlisteds ds = true → sysModules ∉ as)
  | [], _, _, h, r => by cases h; cases r; exact ⟨_, .nil, fun _ z => by cases z⟩
  | d :: ds, _, _, h, r => by
    cases h with
    | cons h1 h2 =>
      cases r with
      | cons r1 r2 =>
        obtain ⟨as, q1, n1⟩ := Dq.look I d _ _ h1 r1
        obtain ⟨bs, q2, n2⟩ := Dqs.look I ds _ _ h2 r2
        refine ⟨_, .cons q1 q2, fun z => ?_⟩
        simp only [unlisteds, Bool.and_eq_true] at z
        intro m
        rcases List.mem_append.mp m with m | m
        · exact n1 z.1 m
        · exact n2 z.2 m
end
end
/-- what repr(x) asks -/
def rShow (K : PySem.W.Frag) : List V → Hp → VK → Prop := fun xs H Q => ∃ (x : V) (d : PyData), xs = [x] ∧ Dq K H d x ∧ d.showable = true ∧ (d.hasDict = true → unlisted d = true) ∧ d.depth ≤ 40 ∧ d.shown.length ≤ sizeLine ∧ Q (.str d.shown) H
theorem call_show {X : Cx} (hg : X.A.guards = some []) (hu : X.A.units + 64 < cLine) : CallR X (.builtin "repr") (rShow X.K) := by
  intro pins s σ H xs us Q I r h
  obtain ⟨x, d, rfl, dq, sh, nl, dp, sz, q⟩ := h
  obtain ⟨u, rfl, ru⟩ := vals1 r
  obtain ⟨as, rd, na⟩ := Dq.look I d x u dq ru
  have ref : ∀ a, u = .ref a → wpAny (model X.prog X.w) X.A (call (.builtin "repr") [.ref a]) (EP X pins σ Q) X.xe s := fun a e => by
    subst e
    exact repr_of_reads' rd sh (fun z => na (nl z)) hg (by omega) (fun b o z => z) (fun h' u tk hk => ⟨.str d.shown, H, I.kept (t' := tk) hk, ⟨u, rfl⟩, q⟩) sz
  cases dq with
  | non => cases ru; rw [PyData.shown_none] at q; exact PySem.P.repr_of_none ⟨.str _, H, I.tok _, ⟨_, rfl⟩, q⟩
  | bl b => cases ru; rw [PyData.shown_bool] at q; exact PySem.P.repr_of_bool ⟨.str _, H, I.tok _, ⟨_, rfl⟩, q⟩
  | int i =>
    obtain ⟨t, rfl⟩ := ru
    rw [PyData.shown_int] at q
    exact PySem.P.repr_of_int (of_decide_eq_true (by simpa [PyData.showable] using sh)) ⟨.str _, H, I.tok _, ⟨_, rfl⟩, q⟩
  | str y =>
    obtain ⟨t, rfl⟩ := ru
    rw [PyData.shown_str] at q sz
    exact PySem.P.repr_of_str ⟨.str _, H, I.tok _, ⟨_, rfl⟩, q⟩ sz
  | lst _ _ => cases ru; exact ref _ rfl
  | tup _ _ => cases ru; exact ref _ rfl
  | dct _ => cases ru; exact ref _ rfl
end Y
set_option Elab.async false
set_option linter.all false
set_option maxRecDepth 100000
set_option maxHeartbeats 2000000
/-! set(()), and how many things a set holds -/
namespace L2
open PySem PySem.Spec PyProof.Rows
section
variable {X : Cx}
def rSetNil (K : PySem.W.Frag) (w : World) : List V → Hp → VK → Prop := fun vs H Q => ∃ a, vs = [.ref a] ∧ SqT K H a [] ∧ ∀ p, H p = none → Q (.ref p) (upd H p (SetO w p (fun j => decide (j ∈ ([] : List Int))) 0))
theorem cr_setNil (hc : X.calm = true) : CallR X (.type "set") (rSetNil X.K X.w) := by
  intro pins s σ H xs us Q I r h
  obtain ⟨a, rfl, ha, q⟩ := h
  cases r with
  | cons r1 r2 =>
    cases r2
    cases r1
    obtain ⟨its, rv, pt, hz⟩ := I.tuple ha
    cases rv
    refine call_set_tupI [] (I.ok.hd hc) (show s.heap.IsTuple a ([] : List Value).toArray from pt) (by exact .nil) (by unfold scanBound; decide) fun h' tk c R hcn k => ?_
    obtain rfl : c = 0 := Nat.le_zero.mp hcn
    exact ⟨.ref _, upd H s.heap.objs.size (SetO X.w s.heap.objs.size (fun j => decide (j ∈ ([] : List Int))) 0), I.laid (t' := tk) (fun b u e => k b u e) (Nat.le_refl _) (setO_new R), rfl, q _ (I.hok.fresh (Nat.le_refl _))⟩
def rLenSet (w : World) : List V → Hp → VK → Prop := fun vs H Q => ∃ (a : Addr) (S : Int → Bool) (n : Nat), vs = [.ref a] ∧ H a = some (SetO w a S n) ∧ Q (.int (n : Int)) H
theorem cr_lenSet : CallR X (.builtin "len") (rLenSet X.w) := by
  intro pins s σ H xs us Q I r h
  obtain ⟨a, S, n, rfl, ha, q⟩ := h
  cases r with
  | cons r1 r2 =>
    cases r2
    cases r1
    obtain ⟨o, es, ep, t, ho, hex, hdt, g, ndk, hm2, hb, hf, hn, hr, hl2⟩ := setO_get I ha
    exact call_len_set ho hex hdt hf (by unfold scanBound at hb; omega) ⟨.int n, H, I.tok _, ⟨_, by rw [hn]⟩, q⟩
end
end L2
set_option Elab.async false
set_option linter.all false
set_option maxRecDepth 100000
set_option maxHeartbeats 2000000
namespace L2
open PySem PySem.Spec PyProof.Rows
section
variable {X : Cx}
/-- set(), for tuples of ints -/
def rSet0T (P : Program) (w : World) : List V → Hp → VK → Prop := fun xs H Q => xs = [] ∧ ∀ p, H p = none → Q (.ref p) (upd H p (SetTO P w p []))
theorem cr_set0T : CallR X (.type "set") (rSet0T X.prog X.w) := by
  intro pins s σ H xs us Q I r h
  obtain ⟨rfl, q⟩ := h
  cases r
  refine setR_new fun _ => ?_
  have new := (setTR_fresh (P := X.prog) (w := X.w) (Heap.get?_push_size s.heap (o := { cls := .type "set", dict := none, data := .set #[] 0 (.fresh 0 0 (!X.w.params.followText "set-order")) }) rfl)).t0
  exact ⟨.ref _, upd H s.heap.objs.size (SetTO X.prog X.w s.heap.objs.size []), I.laid (t' := s.toks) (fun b u e => Heap.get?_push_of_some _ e) (Nat.le_refl _) (setTO_new new), rfl, q _ (I.hok.fresh (Nat.le_refl _))⟩
/-- seen.add(t) -/
def rSAddT (K : PySem.W.Frag) (P : Program) (w : World) : V → List V → Hp → VK → Prop := fun x xs H Q => ∃ (a b : Addr) (L : List (Addr × List Int)) (k : List Int), x = V.ref a ∧ xs = [.ref b] ∧ H a = some (SetTO P w a L) ∧ (∀ p ∈ L, SqT K H p.1 (p.2.map V.int)) ∧ SqT K H b (k.map V.int) ∧ L.length + 1 < 64 ∧
  ∀ L', (k ∈ L.map (·.2) → L' = L) → (k ∉ L.map (·.2) → L'.Perm ((b, k) :: L)) → Q .non (upd H a (SetTO P w a L'))
theorem call_saddT {pins : List (Addr × Obj)} {σ : St} {H : Hp} {s : Shared} {a b : Addr} {L : List (Addr × List Int)} {k : List Int} {Q : Value → Shared → Prop} (hu : X.A.units + 64 < cLine) (I : Inv X pins σ H s) (ha : H a = some (SetTO X.prog X.w a L)) (hL : ∀ p ∈ L, SqT X.K H p.1 (p.2.map V.int)) (hb : SqT X.K H b (k.map V.int)) (hf : L.length + 1 < 64)
    (q : ∀ L' s', (k ∈ L.map (·.2) → L' = L) → (k ∉ L.map (·.2) → L'.Perm ((b, k) :: L)) → Inv X pins σ (upd H a (SetTO X.prog X.w a L')) s' → Q .none s') :
    wpAny (model X.prog X.w) X.A (call (.builtin "set.add") [.ref a, .ref b]) Q X.xe s := by
  have R0 : SetT0 X.prog X.w s.heap a L := (I.hok a _ ha).1
  obtain ⟨es, ep, t, R⟩ := R0.full fun p hp => I.isT (hL p hp)
  have hx := I.isT hb
  obtain ⟨o, ho, hex, hd⟩ := R.ob
  have hT : s.TypeIs (.ref a) "set" := ⟨o, ho, hex.1⟩
  refine wpAny_call_entry F.slot_set_add hT F.entry_set_add ?_ (F.args_set_add_2 _ _)
  unfold Builtin.«set.add» Builtin.Frozenset.oneOther
  simp only [List.isEmpty_nil, bind_assoc]
  unfold Builtin.Frozenset.addrOf setAdd
  refine wpAny_bind (wpAny_pure ?_)
  try dsimp only
  refine wpAny_bind (wpAny_pure ?_)
  try dsimp only
  refine wpAny_bind ?_
  refine wpAny_holding ?_
  have hu1 : X.A.in1.units < cLine := Nat.lt_of_le_of_lt (show X.A.in1.units ≤ X.A.units + 64 from Nat.le_trans (Nat.le_refl _) (by show X.A.units + 1 ≤ X.A.units + 64; omega)) hu
  refine wpAny_bind (wpAny_pyHash_tuple hu1 hx ?_)
  refine add_at (s := { s with toks := s.toks + (k.length + 1) }) R hx hu1 hf fun b' h' L' es' ep' t' sb R2 c1 c2 => ?_
  show wpAny _ _ (ret Value.none) _ _ _
  refine wpAny_pure ⟨_, rfl, q L' _ c1 c2 (I.write (e := a) (t' := s.toks + (k.length + 1)) (by rw [ha]; trivial) (.inl rfl) (fun c u hc hu => (sb.2 c hc).trans hu) ?_ (setTO_new R2.t0))⟩
  obtain ⟨o', ho', _⟩ := R2.ob
  exact ⟨o', ho'⟩
end
end L2
set_option Elab.async false
set_option linter.all false
set_option maxRecDepth 100000
set_option maxHeartbeats 2000000
namespace L2
open PySem PySem.Spec PyProof.Rows
/-! ### seen.add(t) as an expression -/
def tSAddT (K : PySem.W.Frag) (P : Program) (w : World) (to : TE) (t : TA) : TE := fun σ H Q => to σ H fun x H1 => (∃ a L, x = V.ref a ∧ H1 a = some (SetTO P w a L)) ∧ t σ H1 fun xs H2 => rSAddT K P w x xs H2 Q
theorem pe_saddT {X : Cx} {o e : Expr} {es : List Expr} {to : TE} {t : TA} {apos cpos : Pos} (hu : X.A.units + 64 < cLine) (ho : PE X o to) (ha : PA X (e :: es) t)
    (hbase : attributeBase o "add" X.env (eval o X.env) = eval o X.env := by rfl) (hfew : ((backTo cpos (starEach (e :: es) X.env)).all (fun x => !x.1) && (backToKw cpos (keywordEach [] X.env)).all (fun x => x.1.isSome) && decide ((e :: es).length + ([] : List Keyword).length + (if ([] : List Keyword).isEmpty then 0 else 1) < 30)) = true := by rfl)
    (hline : (apos.endLine == cpos.line) = true := by rfl) (hs : starEach (e :: es) X.env = (false, eval e X.env) :: starEach es X.env := by rfl) (hplain : (backTo cpos (starEach es X.env)).any (·.1) = false := by rfl) :
    PE X (.Call (.Attribute o "add" apos) (e :: es) [] cpos) (tSAddT X.K X.prog X.w to t) := by
  refine ⟨fun pins s σ H Q I h => ?_⟩
  refine wpAny_Call_method_late hbase hfew hline rfl (thn (ho.run pins s σ H _ I h) fun v s1 ⟨x, H1, I1, r1, ty, q1⟩ => ?_)
  obtain ⟨a, L, rfl, hka⟩ := ty
  have R0 : SetT0 X.prog X.w s1.heap a L := (I1.hok a _ hka).1
  obtain ⟨es', ep, t', ⟨ob, hob, hex, hdt⟩, _⟩ := R0.ex
  cases r1
  refine ⟨"set", "set.add", F.plainAttrs_set, F.slot_set_add, F.type_set_add, ⟨ob, hob, hex.1⟩, (fun b e => by cases e; exact ⟨ob, hob, hex.2.1⟩), ?_⟩
  have hA := ha.run cpos pins s1 σ H1 _ I1 q1
  rw [hs] at hA ⊢
  refine Calls.callWith_builtin (by show (false || (backTo cpos (starEach es X.env)).any (·.1)) = false; rw [hplain] <;> rfl) (Calls.evalArgs_plain (thn hA fun us s2 ⟨vs, H2, I2, r2, q2⟩ => ?_))
  obtain ⟨a', b, L2, k, e1, rfl, h2, hL, hb, few, q⟩ := q2
  cases e1
  cases r2 with
  | cons ry rt =>
    cases rt
    cases ry
    refine call_saddT hu I2 h2 hL hb few fun L' s' c1 c2 I3 => ?_
    exact ⟨.non, _, I3, rfl, q L' c1 c2⟩
end L2
set_option Elab.async false
set_option linter.all false
set_option maxRecDepth 100000
set_option maxHeartbeats 4000000
namespace Y
open PySem PySem.Spec PyProof.Rows L2
/-! ### the length of a shown row -/
theorem listText_le : ∀ ts : List Str, (listText ts).length ≤ piled ts + 4
  | [] => by decide +kernel
  | t :: r => by
    have hX : (listText (t :: r)).length = (textFrom 0 "[" (t :: r)).length + 1 := by
      unfold listText
      rw [strLen_append]
      rfl
    have hY : textFrom 0 "[" (t :: r) = textFrom 1 ((("[" : String) : Str) ++ (if 0 > 0 then ", " else "" : String) ++ t) r := rfl
    have h := textFrom_length_pos r 1 ((("[" : String) : Str) ++ (if 0 > 0 then ", " else "" : String) ++ t) (by decide)
    have e : ((("[" : String) : Str) ++ (if 0 > 0 then ", " else "" : String) ++ t).length = 1 + t.length := by
      rw [strLen_append, strLen_append]
      rfl
    rw [hX, hY, h, e, piled_cons]
    omega
theorem tupleText_le (ts : List Str) : (tupleText ts).length ≤ piled ts + 4 := by
  unfold tupleText
  rw [strLen_append, strLen_append]
  have e1 : (("(" : Str)).length = 1 := rfl
  have e2 : (((if ts.length == 1 then ",)" else ")" : String)) : Str).length ≤ 2 := by
    split
    · exact Nat.le_refl 2
    · exact (by decide : 1 ≤ 2)
  have e3 : (Str.join ", " ts).length ≤ piled ts := by
    by_cases h : ts = []
    · rw [h]; decide +kernel
    · have := join_length_add ts h
      omega
  omega
theorem piled_le {k : Nat} : ∀ {ts : List Str}, (∀ t ∈ ts, t.length ≤ k) → piled ts ≤ (k + 2) * ts.length
  | [], _ => by rw [piled_nil]; exact Nat.zero_le _
  | t :: r, h => by
    have h1 := h t List.mem_cons_self
    have ih := piled_le (ts := r) fun x hx => h x (List.mem_cons_of_mem _ hx)
    rw [piled_cons, List.length_cons, Nat.mul_succ]
    omega
theorem shownAll_map (ds : List PyData) : PyData.shownAll ds = ds.map PyData.shown := by
  induction ds with
  | nil => rfl
  | cons d ds ih => rw [PyData.shownAll_cons, ih]; rfl
theorem shown_rows_le {k m : Nat} {ds : List PyData} (hk : ∀ d ∈ ds, d.shown.length ≤ k) (hm : ds.length ≤ m) : (PyData.list ds).shown.length ≤ (k + 2) * m + 4 ∧ (PyData.tuple ds).shown.length ≤ (k + 2) * m + 4 := by
  have h1 : piled (PyData.shownAll ds) ≤ (k + 2) * m := by
    rw [shownAll_map]
    refine Nat.le_trans (piled_le fun t ht => ?_) (Nat.mul_le_mul_left _ (by rw [List.length_map]; exact hm))
    obtain ⟨d, hd, rfl⟩ := List.mem_map.mp ht
    exact hk d hd
  have e1 : (PyData.list ds).shown = listText (PyData.shownAll ds) := by simp only [PyData.shown]
  have e2 : (PyData.tuple ds).shown = tupleText (PyData.shownAll ds) := by simp only [PyData.shown]
  rw [e1, e2]
  have := listText_le (PyData.shownAll ds)
  have := tupleText_le (PyData.shownAll ds)
  exact ⟨by omega, by omega⟩
/-! ### data that repr can show -/
structure Sh (d : PyData) (k L : Nat) : Prop where
  show_ : d.showable = true
  nod : d.hasDict = false
  deep : d.depth ≤ k
  len : d.shown.length ≤ L
theorem Sh.mono {d : PyData} {k L k' L' : Nat} (h : Sh d k L) (hk : k ≤ k') (hL : L ≤ L') : Sh d k' L' := ⟨h.show_, h.nod, Nat.le_trans h.deep hk, Nat.le_trans h.len hL⟩
theorem sh_all {ds : List PyData} {k L : Nat} (h : ∀ d ∈ ds, Sh d k L) : PyData.showableAll ds = true ∧ PyData.hasDictAll ds = false ∧ PyData.depthAll ds ≤ k := by
  induction ds with
  | nil => exact ⟨rfl, rfl, Nat.zero_le _⟩
  | cons d ds ih =>
    obtain ⟨h1, h2, h3⟩ := ih fun x hx => h x (List.mem_cons_of_mem _ hx)
    have a := h d List.mem_cons_self
    refine ⟨?_, ?_, Nat.max_le.mpr ⟨a.deep, h3⟩⟩
    · show (d.showable && PyData.showableAll ds) = true
      rw [a.show_, h1]
      rfl
    · show (d.hasDict || PyData.hasDictAll ds) = false
      rw [a.nod, h2]
      rfl
theorem sh_list {ds : List PyData} {k L m : Nat} (h : ∀ d ∈ ds, Sh d k L) (hm : ds.length ≤ m) : Sh (.list ds) (k + 1) ((L + 2) * m + 4) := by
  obtain ⟨h1, h2, h3⟩ := sh_all h
  exact ⟨h1, h2, Nat.succ_le_succ h3, (shown_rows_le (fun d hd => (h d hd).len) hm).1⟩
theorem sh_tuple {ds : List PyData} {k L m : Nat} (h : ∀ d ∈ ds, Sh d k L) (hm : ds.length ≤ m) : Sh (.tuple ds) (k + 1) ((L + 2) * m + 4) := by
  obtain ⟨h1, h2, h3⟩ := sh_all h
  exact ⟨h1, h2, Nat.succ_le_succ h3, (shown_rows_le (fun d hd => (h d hd).len) hm).2⟩
end Y
set_option Elab.async false
set_option linter.all false
set_option maxRecDepth 100000
set_option maxHeartbeats 2000000
namespace Y
open PySem PySem.Spec PyProof.Rows L2
/-- sorted(xs) of a list or a tuple of ints -/
def rSortA (K : PySem.W.Frag) : List V → Hp → VK → Prop := fun vs H Q => ∃ (a : Addr) (ns : List Int), vs = [V.ref a] ∧ SqA K H a (ns.map V.int) ∧ ns.length ≤ 100000 ∧
  ∀ (ms : List Int) (p : Addr), ms.Perm ns → ms.Pairwise (· ≤ ·) → H p = none → Q (.ref p) (upd H p (.lst (ms.map V.int)))
section
variable {X : Cx}
theorem seq_raw {pins : List (Addr × Obj)} {σ : L2.St} {H : Hp} {s : Shared} {a : Addr} {xs : List V} (I : Inv X pins σ H s) (h : SqA X.K H a xs) : ∃ (T : String) (o : Obj) (its : List Value) (n : Nat), (T = "list" ∨ T = "tuple") ∧ s.heap.get? a = some o ∧ o.cls = .type T ∧ o.data = .seq its.toArray n ∧ Vals xs its := by
  rcases h with h | h
  · obtain ⟨its, rv, ⟨o, n, ho, hc, _, hd⟩, _⟩ := I.list h
    exact ⟨"list", o, its, n, .inl rfl, ho, hc, by rw [hd], rv⟩
  · obtain ⟨its, rv, ⟨o, ho, hc, n, hd⟩, _⟩ := I.tuple h
    exact ⟨"tuple", o, its, n, .inr rfl, ho, hc, by rw [hd], rv⟩
theorem cr_sortedA : CallR X (.builtin "sorted") (rSortA X.K) := by
  intro pins s σ H xs us Q I r h
  obtain ⟨a, ns, rfl, hs, hz, q⟩ := h
  obtain ⟨u, rfl, rx⟩ := r.one
  cases rx
  obtain ⟨T, o, its, n, hT, ho, hc, hd, rv⟩ := seq_raw I hs
  have sz : sizeLine = 16777216 := sizeLine_eq
  have hl : its.length = ns.length := by rw [← rv.length, List.length_map]
  have hi := rv.ints
  refine Calls.call_function_entry kind_sorted plain_sorted entry_sorted (args_sorted1 _) ?_
  unfold Builtin.«sorted»
  refine wpAny_bind (m := checkCount "sorted" 1 1 _) (wpAny_pure (wpAny_bind (wpAny_collect_seq a hT ho hc hd (fun h' hk => ?_) (by rw [List.size_toArray]; omega))))
  rw [List.toList_toArray]
  have I1 : Inv X pins σ H { s with heap := h', toks := s.toks } := I.kept hk
  refine wpAny_bind (wpAny_newList ?_ (by omega))
  have at0 : (h'.push (seqObj "list" its.toArray 0)).get? h'.objs.size = some (seqObj "list" its.toArray 0) := Heap.get?_push_size _ rfl
  show wpAny _ _ _ _ _ { s with heap := h'.push (seqObj "list" its.toArray 0) }
  refine wpAny_bind (wpAny_holding (wpAny_call_entry slot_list_sort ⟨_, at0, rfl⟩ entry_list_sort
    (SrtO.list_sort_ord (s := { s with heap := h'.push (seqObj "list" its.toArray 0) }) SrtO.swo_int at0 (by omega) (fun h2 => SrtO.ints_sortable hi h2) fun out h1 h2 => ⟨_, rfl, ?_⟩) (args_list_sort _)))
  obtain ⟨k1, k2, k3⟩ := SrtO.ints_out hi h1 h2
  obtain ⟨ep, he⟩ := sortedHeap_at (vs := its) (out := out.toArray) at0
  have fits : ((out.map SrtO.iv).map V.int).length ≤ sizeLine := by rw [List.length_map, k2.length_eq]; omega
  refine wpAny_pure ⟨_, rfl, .ref h'.objs.size, upd H h'.objs.size (.lst ((out.map SrtO.iv).map V.int)), I1.laid (t' := s.toks) (fun b u e => ?_) (Nat.le_refl _) ⟨fits, out, ep, vals_of_ints k1, he⟩, rfl, q _ _ k2 k3 (I1.hok.fresh (Nat.le_refl _))⟩
  have hb : b < h'.objs.size := Heap.lt_size e
  rw [sortedHeap_old (Nat.ne_of_lt hb) (by rw [size_push']; exact Nat.lt_succ_of_lt hb)]
  exact Heap.get?_push_of_some _ e
end
end Y
set_option Elab.async false
set_option linter.all false
set_option maxRecDepth 100000
set_option maxHeartbeats 2000000
namespace L2
open PySem PySem.Spec PyProof.Rows
/-- sorted(d) of a dict with fewer than 64 keys, all tuples of as many ints in [0, B): a new list of the key tuples, ascending by code B -/
def rSortDT (K : PySem.W.Frag) : List V → Hp → VK → Prop := fun vs H Q => ∃ (a : Addr) (kvs : List (List Key × V)) (d : Nat) (B : Int), vs = [V.ref a] ∧ Rd H a (.dT kvs) ∧ kvs.length < 64 ∧ 1 ≤ d ∧
  (∀ kv ∈ kvs, ∃ ns : List Int, kv.1 = ns.map Sum.inl ∧ ns.length = d ∧ TS.Bd B ns) ∧
  ∀ (bs : List Addr) (ys : List V) (p : Addr), IsKeys H kvs bs → ys.Perm (bs.map V.ref) → ys.Pairwise (fun x y => ∀ n m, TupI K H x n → TupI K H y m → TS.code B n ≤ TS.code B m) → H p = none → Q (.ref p) (upd H p (.lst ys))
theorem isKeys_mem {H : Hp} {kvs : List (List Key × V)} {bs : List Addr} (r : IsKeys H kvs bs) : ∀ b ∈ bs, ∃ kv ∈ kvs, H b = some (.tup (kv.1.map kV)) := by
  unfold IsKeys at r
  induction r with
  | nil => intro b hb; cases hb
  | cons h t ih =>
    intro b hb
    rcases List.mem_cons.mp hb with rfl | hb
    · exact ⟨_, List.mem_cons_self, h⟩
    · obtain ⟨kv, m, e⟩ := ih b hb
      exact ⟨kv, List.mem_cons_of_mem _ m, e⟩
section
variable {X : Cx}
theorem cr_sortedDT (hc : X.calm = true) : CallR X (.builtin "sorted") (rSortDT X.K) := by
  intro pins s σ H xs us Q I r h
  obtain ⟨a, kvs, d, B, rfl, hd, h64, hd1, hB, q⟩ := h
  obtain ⟨u, rfl, rx⟩ := r.one
  cases rx
  obtain ⟨z, hs, ks, pr, o, es, ep, ho, hx, hdt, he, hn⟩ := (show ObjOk X.prog X.w H s.heap a (.dT kvs) from hd.ok I.hok)
  have l1 : es.size = ks.length := size_of_entries he
  have l2 : kvs.length = ks.length := Paired.length pr
  refine Calls.call_function_entry PyProof.Rows.kind_sorted PyProof.Rows.plain_sorted PyProof.Rows.entry_sorted (PyProof.Rows.args_sorted1 _) ?_
  unfold Builtin.«sorted»
  refine wpAny_bind (m := checkCount "sorted" 1 1 _) (wpAny_pure ?_)
  have szl : sizeLine = 16777216 := sizeLine_eq
  refine wpAny_bind (PySem.W.kdu_collect (A := X.A.in1) (kdl_raw hs hx hdt) (I.ok.hd hc) ho (by omega) fun h' tk acc' hk it => ?_)
  have ea : acc'.toList = ks.map fun x => Value.ref x.2.1 := by
    have hl : acc'.toList.length = ks.length := by rw [Array.length_toList, it.1]; exact l1
    apply List.ext_getElem?
    intro j
    rw [List.getElem?_map]
    cases hj : acc'.toList[j]? with
    | none =>
      have h1 := List.getElem?_eq_none_iff.mp hj
      rw [List.getElem?_eq_none (by omega)]
      all_goals rfl
    | some v =>
      obtain ⟨en, hen, hv⟩ := it.2 j v (by rw [← Array.getElem?_toList]; exact hj)
      have qe := entry_at he j
      rw [hen] at qe
      cases hb : ks[j]? with
      | none =>
        rw [hb] at qe
        exact nomatch (show some en = none from qe)
      | some b =>
        rw [hb] at qe
        have e2 : en = entryOfKey (tupleKind (mixKind X.prog X.w)) b := Option.some.inj qe
        rw [hv, e2]
        all_goals rfl
  have I1 : Inv X pins σ H { s with heap := h', toks := tk } := I.kept hk
  have kz := isKeys_of pr
  have eb : acc'.toList = (ks.map fun x => x.2.1).map Value.ref := by rw [ea, List.map_map]; all_goals rfl
  have al : acc'.toList.length = kvs.length := by rw [ea, List.length_map]; omega
  have tups : ∀ v ∈ acc'.toList, ∃ (t : Addr) (ns : List Int), v = .ref t ∧ H t = some (.tup (ns.map V.int)) ∧ ns.length = d ∧ TS.Bd B ns := fun v hv => by
    rw [eb] at hv
    obtain ⟨b, hb, rfl⟩ := List.mem_map.mp hv
    obtain ⟨kv, m, e⟩ := isKeys_mem kz b hb
    obtain ⟨ns, ek, n1, n2⟩ := hB kv m
    refine ⟨b, ns, rfl, ?_, n1, n2⟩
    rw [e, ek, List.map_map]
    rfl
  refine wpAny_bind (wpAny_newList ?_ (by rw [al]; omega))
  have hoL : (h'.push (seqObj "list" acc'.toList.toArray 0)).get? h'.objs.size = some (seqObj "list" acc'.toList.toArray 0) := Heap.get?_push_size _ rfl
  have okT : TS.TupsOk (h'.push (seqObj "list" acc'.toList.toArray 0)) d B acc'.toList := fun v hv => by
    obtain ⟨t, ns, rfl, e, n1, n2⟩ := tups v hv
    have raw := tupI_raw I1 (SqT.of e)
    exact ⟨ns, raw.keeps fun b ob q _ => Heap.get?_push_of_some _ q, n1, n2⟩
  show wpAny _ _ _ _ _ { s with heap := h'.push (seqObj "list" acc'.toList.toArray 0), toks := tk }
  refine wpAny_bind (wpAny_holding (wpAny_call_entry PyProof.Rows.slot_list_sort ⟨_, hoL, rfl⟩ PyProof.Rows.entry_list_sort
    (TS.sort_tups (s := { s with heap := h'.push (seqObj "list" acc'.toList.toArray 0), toks := tk }) hoL (by rw [al]; exact h64) hd1 okT (fun v => TS.code B (TS.intsOf (h'.push (seqObj "list" acc'.toList.toArray 0)) v)) (fun v hv ns t => by
      show TS.code B (TS.intsOf _ v) = TS.code B ns
      rw [t.ints]) fun out a1 a2 => ⟨_, rfl, ?_⟩) (PyProof.Rows.args_list_sort _)))
  obtain ⟨e', he'⟩ := PyProof.Rows.sortedHeap_at (vs := acc'.toList) (out := out) hoL
  have refs : ∀ u ∈ out.toList, ∃ a, u = Value.ref a := fun u hu => by
    obtain ⟨t, _, e, _⟩ := tups u (a1.mem_iff.mp hu)
    exact ⟨t, e⟩
  have hp : (out.toList.map bkV).Perm ((ks.map fun x => x.2.1).map V.ref) := by
    have e1 : acc'.toList.map bkV = (ks.map fun x => x.2.1).map V.ref := by rw [eb, List.map_map]; rfl
    rw [← e1]
    exact a1.map bkV
  have hlen : (out.toList.map bkV).length ≤ sizeLine := by
    rw [hp.length_eq, List.length_map, List.length_map]
    omega
  refine wpAny_pure ⟨_, rfl, .ref h'.objs.size, upd H h'.objs.size (.lst (out.toList.map bkV)), I1.laid (t' := tk) (fun b u e => ?_) (Nat.le_refl _)
    (show ObjOk X.prog X.w _ _ _ (.lst (out.toList.map bkV)) from ⟨hlen, out.toList, e', bkV_vals refs, by rw [Array.toArray_toList]; exact he'⟩), rfl, q _ _ _ kz hp ?_ (I1.hok.fresh (Nat.le_refl _))⟩
  · have hb : b < h'.objs.size := Heap.lt_size e
    rw [PyProof.Rows.sortedHeap_old (Nat.ne_of_lt hb) (by rw [size_push']; exact Nat.lt_succ_of_lt hb)]
    exact Heap.get?_push_of_some _ e
  · rw [List.pairwise_map]
    refine List.Pairwise.imp (fun {u v} huv n m hn hm => ?_) a2
    obtain ⟨t, et, ht⟩ := hn
    obtain ⟨t', et', ht'⟩ := hm
    have eu := bkV_ref et
    have ev := bkV_ref et'
    have i1 : TS.intsOf (h'.push (seqObj "list" acc'.toList.toArray 0)) u = n := by
      rw [eu]
      exact ((tupI_raw I1 ht).keeps fun b ob q _ => Heap.get?_push_of_some _ q).ints
    have i2 : TS.intsOf (h'.push (seqObj "list" acc'.toList.toArray 0)) v = m := by
      rw [ev]
      exact ((tupI_raw I1 ht').keeps fun b ob q _ => Heap.get?_push_of_some _ q).ints
    rw [← i1, ← i2]
    exact huv
end
end L2
set_option Elab.async false
set_option linter.all false
set_option maxRecDepth 100000
set_option maxHeartbeats 2000000
namespace Y
open PySem PySem.Spec PyProof.Rows L2
abbrev PK := List (List Key × V)
def pk (t : Int × Int) : List Key := [Sum.inl t.1, Sum.inl t.2]
theorem pk_inj {t u : Int × Int} (h : pk t = pk u) : t = u := by
  unfold pk at h
  injection h with h1 h2
  injection h2 with h2 _
  injection h1 with h1
  injection h2 with h2
  exact Prod.ext h1 h2
/-- a tie between two of n places -/
def TieOk (n : Nat) (t : Int × Int) : Prop := 0 ≤ t.1 ∧ t.1 < n ∧ 0 ≤ t.2 ∧ t.2 < n ∧ t.1 ≠ t.2
/-- the pairs kept in a dict: ks, in the order they came -/
def PairsOk (n : Nat) (kvs : PK) (ks : List (Int × Int)) : Prop := kvs.map (·.1) = ks.map pk ∧ ks.Nodup ∧ ∀ t ∈ ks, TieOk n t
theorem PairsOk.nil (n : Nat) : PairsOk n [] [] := ⟨rfl, List.nodup_nil, fun t h => by cases h⟩
theorem PairsOk.len {n : Nat} {kvs : PK} {ks : List (Int × Int)} (h : PairsOk n kvs ks) : kvs.length = ks.length := by
  have := congrArg List.length h.1
  rwa [List.length_map, List.length_map] at this
theorem PairsOk.put {n : Nat} {kvs : PK} {ks : List (Int × Int)} (h : PairsOk n kvs ks) {t : Int × Int} (ht : TieOk n t) (v : V) : ∃ ks', PairsOk n (putK kvs (pk t) v) ks' ∧ ks'.length ≤ ks.length + 1 ∧ (∀ u ∈ ks, u ∈ ks') ∧ t ∈ ks' := by
  by_cases c : (kvs.any fun kv => decide (kv.1 = pk t)) = true
  · refine ⟨ks, ⟨?_, h.2.1, h.2.2⟩, Nat.le_succ _, fun u hu => hu, ?_⟩
    rotate_left
    · obtain ⟨kv, m, e⟩ := List.any_eq_true.mp c
      have m2 : pk t ∈ ks.map pk := by rw [← h.1]; exact List.mem_map.mpr ⟨kv, m, of_decide_eq_true e⟩
      obtain ⟨u, hu, e2⟩ := List.mem_map.mp m2
      rw [← pk_inj e2]; exact hu
    unfold putK
    rw [if_pos c, List.map_map, ← h.1]
    refine List.map_congr_left fun kv _ => ?_
    show (if kv.1 = pk t then (kv.1, v) else kv).1 = kv.1
    split <;> rfl
  · refine ⟨ks ++ [t], ⟨?_, ?_, fun u hu => ?_⟩, by rw [List.length_append]; exact Nat.le_refl _, fun u hu => List.mem_append.mpr (.inl hu), List.mem_append.mpr (.inr (List.mem_singleton.mpr rfl))⟩
    · unfold putK
      rw [if_neg c, List.map_append, List.map_append, h.1]
      rfl
    · rw [List.nodup_append]
      refine ⟨h.2.1, by simp, fun a ha b hb e => c ?_⟩
      rw [List.mem_singleton] at hb
      subst hb
      subst e
      have : pk a ∈ kvs.map (·.1) := by rw [h.1]; exact List.mem_map.mpr ⟨a, ha, rfl⟩
      obtain ⟨kv, m, e⟩ := List.mem_map.mp this
      exact List.any_eq_true.mpr ⟨kv, m, decide_eq_true e⟩
    · rcases List.mem_append.mp hu with hu | hu
      · exact h.2.2 u hu
      · rw [List.mem_singleton.mp hu]; exact ht
/-! ### ties as data -/
def tieD (t : Int × Int) : PyData := .tuple [.int t.1, .int t.2]
theorem dp_tie {K : PySem.W.Frag} {H : Hp} {b : Addr} {t : Int × Int} (h : SqT K H b [.int t.1, .int t.2]) : Dp K H (.ref b) (tieD t) := .tup h (.cons (.int _) (.cons (.int _) .nil))
/-- at y: the tie t -/
def TieAt (K : PySem.W.Frag) (H : Hp) (y : V) (t : Int × Int) : Prop := TupI K H y [t.1, t.2]
theorem TieAt.dp {K : PySem.W.Frag} {H : Hp} {y : V} {t : Int × Int} (h : TieAt K H y t) : Dp K H y (tieD t) := by
  obtain ⟨b, rfl, h⟩ := h
  exact dp_tie h
/-- a row of ties -/
def TiesOk (n : Nat) (ts : List (Int × Int)) : Prop := ts.Nodup ∧ (∀ t ∈ ts, TieOk n t) ∧ ts.Pairwise fun a b => TS.code 64 [a.1, a.2] ≤ TS.code 64 [b.1, b.2]
theorem keysP {H : Hp} {kvs : PK} {bs : List Addr} {n : Nat} {ks : List (Int × Int)} (r : IsKeys H kvs bs) (h : kvs.map (·.1) = ks.map pk) : Paired (fun (t : Int × Int) (b : Addr) => H b = some (.tup [.int t.1, .int t.2])) ks bs := by
  unfold IsKeys at r
  induction r generalizing ks with
  | nil =>
    cases ks with
    | nil => exact .nil
    | cons t ks => cases h
  | @cons kv b _ _ e t ih =>
    cases ks with
    | nil => cases h
    | cons u ks =>
      injection h with h1 h2
      refine .cons ?_ (ih h2)
      rw [e]
      have h1' : kv.1 = pk u := h1
      rw [h1']
      rfl
/-- sorted, the ties stand in order -/
theorem sorted_ties {K : PySem.W.Frag} {H : Hp} {bs : List Addr} {n : Nat} {ks : List (Int × Int)} (r : Paired (fun (t : Int × Int) (b : Addr) => H b = some (.tup [.int t.1, .int t.2])) ks bs) (nd : ks.Nodup) (ok : ∀ t ∈ ks, TieOk n t)
    {ys : List V} (pm : ys.Perm (bs.map V.ref)) (pw : ys.Pairwise (fun x y => ∀ n m, TupI K H x n → TupI K H y m → TS.code 64 n ≤ TS.code 64 m)) :
    ∃ ts : List (Int × Int), ts.Perm ks ∧ TiesOk n ts ∧ Paired (TieAt K H) ys ts := by
  let f : V → Int × Int := fun y => match y with
    | .ref b => (match H b with | some (.tup [.int i, .int j]) => (i, j) | _ => (0, 0))
    | _ => (0, 0)
  have fb : (bs.map V.ref).map f = ks := by
    clear nd ok pm pw
    induction r with
    | nil => rfl
    | @cons t b _ _ e _ ih =>
      rw [List.map_cons, List.map_cons, ih]
      show (match H b with | some (.tup [.int i, .int j]) => (i, j) | _ => (0, 0)) :: _ = _
      rw [e]
  have fa : ∀ y ∈ bs.map V.ref, TieAt K H y (f y) := by
    clear nd ok pm pw fb
    induction r with
    | nil => intro y hy; cases hy
    | @cons t b _ _ e _ ih =>
      intro y hy
      rcases List.mem_cons.mp hy with rfl | hy
      · refine ⟨b, rfl, ?_⟩
        show SqT K H b [.int (match H b with | some (.tup [.int i, .int j]) => (i, j) | _ => (0, 0)).1, .int (match H b with | some (.tup [.int i, .int j]) => (i, j) | _ => (0, 0)).2]
        rw [e]
        exact SqT.of e
      · exact ih y hy
  have p1 : (ys.map f).Perm ks := by rw [← fb]; exact pm.map f
  have at' : ∀ y ∈ ys, TieAt K H y (f y) := fun y hy => fa y (pm.mem_iff.mp hy)
  refine ⟨ys.map f, p1, ⟨(p1.nodup_iff).mpr nd, fun t ht => ok t (p1.mem_iff.mp ht), ?_⟩, ?_⟩
  · rw [List.pairwise_map]
    refine List.Pairwise.imp_of_mem (fun {a b} ha hb h => h _ _ (at' a ha) (at' b hb)) pw
  · clear p1 pm pw
    induction ys with
    | nil => exact .nil
    | cons y ys ih => exact .cons (at' y List.mem_cons_self) (ih fun z hz => at' z (List.mem_cons_of_mem _ hz))
theorem TieAt.kp {K : PySem.W.Frag} {H H' : Hp} {y : V} {t : Int × Int} (h : TieAt K H y t) (s : Kp H H') : TieAt K H' y t := by
  obtain ⟨b, e, h⟩ := h
  exact ⟨b, e, s.seqT h⟩
theorem ties_kp {K : PySem.W.Frag} {H H' : Hp} {ys : List V} {ts : List (Int × Int)} (h : Paired (TieAt K H) ys ts) (s : Kp H H') : Paired (TieAt K H') ys ts := by
  induction h with
  | nil => exact .nil
  | cons a _ ih => exact .cons (a.kp s) ih
theorem ties_dp {K : PySem.W.Frag} {H : Hp} {ys : List V} {ts : List (Int × Int)} (h : Paired (TieAt K H) ys ts) : DpAll K H ys (ts.map tieD) := by
  induction h with
  | nil => exact .nil
  | cons a _ ih => exact .cons a.dp ih
theorem ties_len {K : PySem.W.Frag} {H : Hp} {ys : List V} {ts : List (Int × Int)} (h : Paired (TieAt K H) ys ts) : ys.length = ts.length := Paired.length h
theorem ties_get {K : PySem.W.Frag} {H : Hp} {ys : List V} {ts : List (Int × Int)} (h : Paired (TieAt K H) ys ts) : ∀ {i : Nat} {y : V}, ys[i]? = some y → ∃ t, ts[i]? = some t ∧ TieAt K H y t := by
  induction h with
  | nil => intro i y e; simp at e
  | cons a _ ih =>
    intro i y e
    cases i with
    | zero => cases Option.some.inj e; exact ⟨_, rfl, a⟩
    | succ i => exact ih e
theorem bd_tie {n : Nat} {t : Int × Int} (h : TieOk n t) (hn : n ≤ 64) : TS.Bd 64 [t.1, t.2] := by
  obtain ⟨a, b, c, d, _⟩ := h
  intro x hx
  rcases List.mem_cons.mp hx with rfl | hx
  · exact ⟨a, by omega⟩
  · rw [List.mem_singleton.mp hx]; exact ⟨c, by omega⟩
end Y
set_option Elab.async false
set_option linter.all false
set_option maxRecDepth 100000
set_option maxHeartbeats 2000000
namespace Y
open PySem PySem.Spec PyProof.Rows L2
/-! ### is the tie in the row of ties? -/
theorem eqv_tie (t u : Int × Int) : PyData.eqv (tieD t) (tieD u) = decide (t = u) := by
  have e : PyData.eqv (tieD t) (tieD u) = (t.1 == u.1 && t.2 == u.2) := by simp [tieD, PyData.eqv, PyData.eqvAll]
  rw [e, Bool.eq_iff_iff]
  simp only [Bool.and_eq_true, beq_iff_eq, decide_eq_true_eq, Prod.ext_iff]
theorem any_tie (ts : List (Int × Int)) (u : Int × Int) : (ts.map tieD).any (fun y => PyData.eqv y (tieD u)) = decide (u ∈ ts) := by
  induction ts with
  | nil => rfl
  | cons t ts ih =>
    rw [List.map_cons, List.any_cons, ih, eqv_tie, Bool.eq_iff_iff]
    simp only [Bool.or_eq_true, decide_eq_true_eq, List.mem_cons]
    exact ⟨fun h => h.imp Eq.symm _root_.id, fun h => h.imp Eq.symm _root_.id⟩
theorem lay_ties : ∀ ts : List (Int × Int), PyData.canLayAll0 (ts.map tieD) = true
  | [] => rfl
  | t :: ts => by
    rw [List.map_cons]
    simp only [PyData.canLayAll0, lay_ties ts, tieD, PyData.canLay0, Bool.and_self]
theorem lay_tie (t : Int × Int) : (tieD t).canLay0 = true := by simp only [tieD, PyData.canLay0, PyData.canLayAll0, Bool.and_self]
theorem depth_tie (t : Int × Int) : (tieD t).depth ≤ 10 := by simp [tieD, PyData.depth, PyData.depthAll]
def rTieIn (K : PySem.W.Frag) (neg : Bool) : R2 := fun x y H Q => ∃ (a : Addr) (ys : List V) (ts : List (Int × Int)) (u : Int × Int), y = .ref a ∧ SqT K H a ys ∧ Paired (TieAt K H) ys ts ∧ TieAt K H x u ∧ Q (.bl (if neg then !decide (u ∈ ts) else decide (u ∈ ts))) H
section
variable {X : Cx}
theorem op_tieIn (hu : X.A.units + 64 < cLine) : OpR X (compareOp .In) (rTieIn X.K false) := by
  intro pins s σ H x y v u Q I rx ry h
  obtain ⟨a, ys, ts, t, rfl, ha, hp, ht, q⟩ := h
  obtain ⟨as, r1⟩ := Dp.reads I (tieD t) x v ht.dp rx
  obtain ⟨bs, r2⟩ := Dp.reads I (.tuple (ts.map tieD)) (.ref a) u (.tup ha (ties_dp hp)) ry
  have := depth_tie t
  exact SeqAt.in_tuple_reads r2 r1 (lay_ties ts) (lay_tie t) (by have := Nat.min_le_right (PyData.depthAll (ts.map tieD)) (tieD t).depth; omega) ⟨.bl _, H, I, rfl, by rw [any_tie]; exact q⟩
theorem op_tieNotIn (hu : X.A.units + 64 < cLine) : OpR X (compareOp .NotIn) (rTieIn X.K true) := by
  intro pins s σ H x y v u Q I rx ry h
  obtain ⟨a, ys, ts, t, rfl, ha, hp, ht, q⟩ := h
  obtain ⟨as, r1⟩ := Dp.reads I (tieD t) x v ht.dp rx
  obtain ⟨bs, r2⟩ := Dp.reads I (.tuple (ts.map tieD)) (.ref a) u (.tup ha (ties_dp hp)) ry
  have := depth_tie t
  exact SeqAt.notIn_tuple_reads r2 r1 (lay_ties ts) (lay_tie t) (by have := Nat.min_le_right (PyData.depthAll (ts.map tieD)) (tieD t).depth; omega) ⟨.bl _, H, I, rfl, by rw [any_tie]; exact q⟩
/-- what is not come to -/
theorem ps_never {st : Stmt} : PS X st (fun _ _ _ => False) := ⟨fun pins s σ H D I h => h.elim⟩
theorem pe_never {e : Expr} : PE X e (fun _ _ _ => False) := ⟨fun pins s σ H Q I h => h.elim⟩
end
end Y
set_option Elab.async false
set_option linter.all false
set_option maxRecDepth 100000
set_option maxHeartbeats 2000000
/-! sorted(d) of a dict whose keys are tuples of ints: any number of them, of any lengths -/
namespace L2
open PySem PySem.Spec PyProof.Rows
section
variable {prog : Program} {w : World} {A : Around} {E : Value → Shared → Prop} {s : Shared} {Q : Bool → Shared → Prop}
theorem kat_intsL {b : Bool} : ∀ {xs ys : List Value} {ns ms : List Int} (i : Nat), IntsAre xs ns → IntsAre ys ms → Q (HT.lexLt ns ms) s → PySem.W.KatLex prog w A b (decide (xs.length < ys.length)) Q (xs.zip ys) i s
  | _, _, _, _, _, .nil, .nil, h => PySem.W.kat_nil h
  | _, _, _, _, _, .nil, .cons _ _ _, h => PySem.W.kat_nil h
  | _, _, _, _, _, .cons _ _ _, .nil, h => PySem.W.kat_nil h
  | _, _, _, _, i, .cons p t hx, .cons q u hy, h => by
    rw [HT.lexLt_cons] at h
    rename_i xs ns ys ms
    have e0 : decide ((Value.int p t :: xs).length < (Value.int q u :: ys).length) = decide (xs.length < ys.length) := decide_eq_decide.mpr (by rw [List.length_cons, List.length_cons]; omega)
    rw [e0]
    show PySem.W.KatLex prog w A b (decide (xs.length < ys.length)) Q ((Value.int p t, Value.int q u) :: xs.zip ys) i s
    refine PySem.W.kat_cons (wpAny_eqBool_int ?_)
    by_cases e : p = q
    · rw [if_pos e] at h
      rw [show (p == q) = true by rw [e]; exact beq_self_eq_true q]
      exact PySem.W.kat_yes (kat_intsL (i + 1) hx hy h)
    · rw [if_neg e] at h
      rw [show (p == q) = false by simpa using e]
      exact PySem.W.kat_no (TS.oneLt_ints _ h)
theorem tup_firsts {h : Heap} : ∀ vs : List Value, (∀ v ∈ vs, ∃ ns, TS.TupInts h v ns ∧ ns ≠ []) → ∃ fs, PySem.W.KatTups h vs fs ∧ fs.length = vs.length ∧ ∀ f ∈ fs, ∃ n t, f = Value.int n t
  | [], _ => ⟨[], PySem.W.KatTups.nil, rfl, fun f hf => by cases hf⟩
  | v :: vs, x => by
    obtain ⟨fs, k, hl, hi⟩ := tup_firsts vs fun u hu => x u (List.mem_cons_of_mem _ hu)
    obtain ⟨ns, ⟨a, xs, rfl, ⟨o, ho, hc, n, hd⟩, it⟩, hne⟩ := x v List.mem_cons_self
    obtain ⟨l⟩ := xs
    cases it with
    | nil => exact absurd rfl hne
    | cons z t it =>
      refine ⟨.int z t :: fs, .cons ho hc hd rfl k, by rw [List.length_cons, List.length_cons, hl], fun f hf => ?_⟩
      rcases List.mem_cons.mp hf with rfl | hf
      · exact ⟨z, t, rfl⟩
      · exact hi f hf
theorem rows_sortableO {a : Addr} {vs : List Value} (h2 : 2 ≤ vs.length) (hp : ∀ v ∈ vs, ∃ ns, TS.TupInts s.heap v ns ∧ ns ≠ []) (ha : ∀ o, s.heap.get? a = some o → o.cls ≠ .type "tuple") :
    SrtO.SortableO prog w A s a vs fun v u => HT.lexLt (TS.intsOf s.heap v) (TS.intsOf s.heap u) := by
  intro h' keep
  have tk : ∀ b o, s.heap.get? b = some o → o.cls = .type "tuple" → h'.get? b = some o := fun b o e c => keep b o (fun z => by subst z; exact ha o e c) e
  have hp' : ∀ v ∈ vs, ∃ ns, TS.TupInts h' v ns ∧ ns ≠ [] ∧ TS.intsOf s.heap v = ns := fun v hv => (let ⟨ns, t, n⟩ := hp v hv; ⟨ns, t.keeps tk, n, t.ints⟩)
  obtain ⟨fs, k1, k2, k3⟩ := tup_firsts vs fun v hv => (let ⟨ns, t, n, _⟩ := hp' v hv; ⟨ns, t, n⟩)
  refine ⟨tuples' true, fun Q E hq => ?_, fun p q hm hm' => ?_⟩
  · refine PySem.W.kat_kind (T := .type "int") k1 (by omega) (fun f hf => ?_) (by rfl) ?_
    · obtain ⟨x, t, rfl⟩ := k3 f hf
      exact PySem.W.Looks.of_pure rfl
    · have e : (Value.type "int" != Value.type "tuple") = true := by first | decide +kernel | rfl | decide
      rw [e]
      exact hq
  · obtain ⟨ns, t1, _, e1⟩ := hp' _ hm
    obtain ⟨ms, t2, _, e2⟩ := hp' _ hm'
    show wpAny (model prog w) A (keyLt' (tuples' true) p.1 q.1) (fun r s' => s' = { s with heap := h' } ∧ r = HT.lexLt (TS.intsOf s.heap p.1) (TS.intsOf s.heap q.1)) (fun _ _ => False) { s with heap := h' }
    rw [e1, e2]
    obtain ⟨b1, xs, f1, ⟨o1, g1, _, n1, d1⟩, i1⟩ := t1
    obtain ⟨b2, ys, f2, ⟨o2, g2, _, n2, d2⟩, i2⟩ := t2
    rw [f1, f2]
    exact PySem.W.kat_lt g1 d1 g2 d2 (kat_intsL 0 i1 i2 ⟨rfl, rfl⟩)
end
/-- the order of rows -/
def RowLe (x y : List Int) : Prop := HT.lexLt y x = false
/-- sorted(d), the keys of d tuples of ints: a new list of the key tuples, ascending -/
def rSortDR (K : PySem.W.Frag) : List V → Hp → VK → Prop := fun vs H Q => ∃ (a : Addr) (kvs : List (List Key × V)), vs = [V.ref a] ∧ Rd H a (.dT kvs) ∧ kvs.length ≤ 1000000 ∧ (∀ kv ∈ kvs, ∃ ns : List Int, kv.1 = ns.map Sum.inl ∧ (ns ≠ [] ∨ kvs.length < 2)) ∧
  ∀ (bs : List Addr) (ys : List V) (p : Addr), IsKeys H kvs bs → ys.Perm (bs.map V.ref) → ys.Pairwise (fun x y => ∀ n m, TupI K H x n → TupI K H y m → RowLe n m) → H p = none → Q (.ref p) (upd H p (.lst ys))
section
variable {X : Cx}
theorem cr_sortedDR (hc : X.calm = true) : CallR X (.builtin "sorted") (rSortDR X.K) := by
  intro pins s σ H xs us Q I r h
  obtain ⟨a, kvs, rfl, hd, hm, hB, q⟩ := h
  obtain ⟨u, rfl, rx⟩ := r.one
  cases rx
  obtain ⟨z, hs, ks, pr, o, es, ep, ho, hx, hdt, he, hn⟩ := (show ObjOk X.prog X.w H s.heap a (.dT kvs) from hd.ok I.hok)
  have l1 : es.size = ks.length := size_of_entries he
  have l2 : kvs.length = ks.length := Paired.length pr
  have szl : sizeLine = 16777216 := sizeLine_eq
  refine Calls.call_function_entry PyProof.Rows.kind_sorted PyProof.Rows.plain_sorted PyProof.Rows.entry_sorted (PyProof.Rows.args_sorted1 _) ?_
  unfold Builtin.«sorted»
  refine wpAny_bind (m := checkCount "sorted" 1 1 _) (wpAny_pure ?_)
  refine wpAny_bind (PySem.W.kdu_collect (A := X.A.in1) (kdl_raw hs hx hdt) (I.ok.hd hc) ho (by omega) fun h' tk acc' hk it => ?_)
  have ea : acc'.toList = ks.map fun x => Value.ref x.2.1 := by
    have hl : acc'.toList.length = ks.length := by rw [Array.length_toList, it.1]; exact l1
    apply List.ext_getElem?
    intro j
    rw [List.getElem?_map]
    cases hj : acc'.toList[j]? with
    | none =>
      rw [List.getElem?_eq_none (by have := List.getElem?_eq_none_iff.mp hj; omega)]
      rfl
    | some v =>
      obtain ⟨en, hen, hv⟩ := it.2 j v (by rw [← Array.getElem?_toList]; exact hj)
      have qe := entry_at he j
      rw [hen] at qe
      cases hb : ks[j]? with
      | none =>
        rw [hb] at qe
        exact nomatch (show some en = none from qe)
      | some b =>
        rw [hb] at qe
        rw [hv, (Option.some.inj qe : en = entryOfKey (tupleKind (mixKind X.prog X.w)) b)]
        rfl
  have I1 : Inv X pins σ H { s with heap := h', toks := tk } := I.kept hk
  have kz := isKeys_of pr
  have eb : acc'.toList = (ks.map fun x => x.2.1).map Value.ref := by rw [ea, List.map_map]; rfl
  have al : acc'.toList.length = kvs.length := by rw [ea, List.length_map]; omega
  have tups : ∀ v ∈ acc'.toList, ∃ (t : Addr) (ns : List Int), v = .ref t ∧ H t = some (.tup (ns.map V.int)) ∧ (ns ≠ [] ∨ kvs.length < 2) := fun v hv => by
    rw [eb] at hv
    obtain ⟨b, hb, rfl⟩ := List.mem_map.mp hv
    obtain ⟨kv, m, e⟩ := isKeys_mem kz b hb
    obtain ⟨ns, ek, n1⟩ := hB kv m
    refine ⟨b, ns, rfl, ?_, n1⟩
    rw [e, ek, List.map_map]
    rfl
  refine wpAny_bind (wpAny_newList ?_ (by rw [al]; omega))
  have hoL : (h'.push (seqObj "list" acc'.toList.toArray 0)).get? h'.objs.size = some (seqObj "list" acc'.toList.toArray 0) := Heap.get?_push_size _ rfl
  have raw : ∀ {t : Addr} {ns : List Int}, SqT X.K H t (ns.map V.int) → TS.TupInts (h'.push (seqObj "list" acc'.toList.toArray 0)) (.ref t) ns := fun e => (tupI_raw I1 e).keeps fun b ob q _ => Heap.get?_push_of_some _ q
  show wpAny _ _ _ _ _ { s with heap := h'.push (seqObj "list" acc'.toList.toArray 0), toks := tk }
  refine wpAny_bind (wpAny_holding (wpAny_call_entry PyProof.Rows.slot_list_sort ⟨_, hoL, rfl⟩ PyProof.Rows.entry_list_sort
    (SrtO.list_sort_ord (s := { s with heap := h'.push (seqObj "list" acc'.toList.toArray 0), toks := tk }) (NtL.swo_lexL fun v => TS.intsOf (h'.push (seqObj "list" acc'.toList.toArray 0)) v) hoL (by rw [al]; omega)
      (fun h2 => rows_sortableO (s := { s with heap := h'.push (seqObj "list" acc'.toList.toArray 0), toks := tk }) h2 (fun v hv => ?_) fun ob e z => ?_) fun out a2 a1 => ⟨_, rfl, ?_⟩) (PyProof.Rows.args_list_sort _)))
  · obtain ⟨t, ns, rfl, e, n1⟩ := tups v hv
    exact ⟨ns, raw (SqT.of e), n1.elim id fun z => absurd z (by omega)⟩
  · have e1 : some ob = some (seqObj "list" acc'.toList.toArray 0) := e.symm.trans hoL
    cases e1
    exact absurd (show (Value.type "list") = Value.type "tuple" from z) (by decide)
  have a1 := a1.perm
  obtain ⟨e', he'⟩ := PyProof.Rows.sortedHeap_at (vs := acc'.toList) (out := out.toArray) hoL
  have refs : ∀ u ∈ out, ∃ a, u = Value.ref a := fun u hu => by
    obtain ⟨t, _, e, _⟩ := tups u (a1.mem_iff.mp hu)
    exact ⟨t, e⟩
  have hp : (out.map bkV).Perm ((ks.map fun x => x.2.1).map V.ref) := by
    have e1 : acc'.toList.map bkV = (ks.map fun x => x.2.1).map V.ref := by rw [eb, List.map_map]; rfl
    rw [← e1]
    exact a1.map bkV
  have hlen : (out.map bkV).length ≤ sizeLine := by
    rw [hp.length_eq, List.length_map, List.length_map]
    omega
  refine wpAny_pure ⟨_, rfl, .ref h'.objs.size, upd H h'.objs.size (.lst (out.map bkV)), I1.laid (t' := tk) (fun b u e => ?_) (Nat.le_refl _)
    (show ObjOk X.prog X.w _ _ _ (.lst (out.map bkV)) from ⟨hlen, out, e', bkV_vals refs, he'⟩), rfl, q _ _ _ kz hp ?_ (I1.hok.fresh (Nat.le_refl _))⟩
  · have hb : b < h'.objs.size := Heap.lt_size e
    rw [PyProof.Rows.sortedHeap_old (Nat.ne_of_lt hb) (by rw [size_push']; exact Nat.lt_succ_of_lt hb)]
    exact Heap.get?_push_of_some _ e
  · rw [List.pairwise_map]
    refine List.Pairwise.imp (fun {u v} huv n m hn hm => ?_) a2
    obtain ⟨t, et, ht⟩ := hn
    obtain ⟨t', et', ht'⟩ := hm
    have huv : HT.lexLt (TS.intsOf (h'.push (seqObj "list" acc'.toList.toArray 0)) v) (TS.intsOf (h'.push (seqObj "list" acc'.toList.toArray 0)) u) = false := huv
    rw [bkV_ref et, bkV_ref et', (raw ht).ints, (raw ht').ints] at huv
    exact huv
end
end L2
set_option Elab.async false
set_option linter.all false
set_option maxRecDepth 100000
set_option maxHeartbeats 2000000
/-! lambdas that are kept (in a list, say) and called later -/
namespace Y
open PySem PySem.Spec PyProof.Rows L2 LamX
/-- the object at f is a lambda; its code object lies at c' -/
def LamO (f : Addr) (q : Str) (params : Arguments) (body : Expr) (scope : Scope) (cl : List (Str × Addr)) (c' : Addr) : HO :=
  .ext fun h => ∃ pm ctv, h.get? f = some (PySem.W.kla_obj "<lambda>" q params body scope cl pm c' ctv)
/-- the cell at c holds v -/
def CellO (c : Addr) (v : V) : HO := .ext fun h => ∃ u, h.IsCell c (some u) ∧ RelV v u
section
variable {X : Cx} {pins : List (Addr × Obj)} {σ : L2.St} {H : Hp} {s : Shared}
theorem lam_make3 {T : List (Addr × Str)} {c P : Addr} {params : Arguments} {body : Expr} {scope : Scope} {pos : Pos} {E : Value → Shared → Prop} {Q : Value → Shared → Prop} (I : Inv X pins σ H s) (TB : TabB X.base X.mg c P) (hcode : X.env.code = .ref c)
    (hm : (P, X.env.qual ++ "<lambda>") ∈ T) (hu : ∀ p ∈ T, p.1 = P → p.2 = X.env.qual ++ "<lambda>") (hT : Tabs T H) (hdef : defaultsOf params X.env = ([], [])) (hfree : ∀ y ∈ scope.names, y.2 = .free → ∃ c, X.env.cells.lookup y.1 = some c)
    (h : ∀ (f c' : Addr) (H1 : Hp) (s' : Shared), Inv X pins σ H1 s' → ExtN H H1 → Tabs T H1 → H f = none →
      H1 f = some (LamO f (X.env.qual ++ "<lambda>") params body scope (cloFrom X.env.cells scope.names []) c') → H1 c' = some (CodeO c' (X.env.qual ++ "<lambda>")) → Q (.ref f) s') :
    wpAny (model X.prog X.w) X.A (eval (.Lambda params body scope pos) X.env) Q E s := by
  obtain ⟨ps, hP, ht, ha⟩ := hT _ hm
  refine PySem.W.kla_eval hdef ?_
  have bP : s.heap.BuiltinsAt X.mg P := TB.bm.keeps I.bk
  have hP' : s.heap.get? P = some { cls := .none, data := .fields ps } := I.hok P _ hP
  cases hc : codeAmong pos ps.toList with
  | none =>
    refine PySem.W.kla_makeFunction (mg := X.mg) (c := c) (P := P) (ps := ps) (closure_ok hfree) I.ok.glob (I.mod.glob.keeps I.bk) hcode (TB.code.keeps I.bk) hP' ht hc TB.gP bP fun c' ctv h' tk hx hge hlt hrec htb => ?_
    obtain ⟨c2, oc, vs, t, e2, hoc, hd, hv⟩ := hrec
    cases e2
    have nC : H c' = none := I.hok.fresh hge
    have I1 := inv_table (t' := tk) (more := #[rawInt pos.line, rawInt pos.col, .ref c']) (h' := h') I hP (fun b o hb e => hx b o hb e) htb hge ⟨oc, vs, t, hoc, hd, hv⟩
    have eL : (ps ++ #[rawInt pos.line, rawInt pos.col, .ref c']).toList = ps.toList ++ [rawInt pos.line, rawInt pos.col, .ref c'] := by simp
    have hE : ExtN H (upd (upd H P (.tbl (ps ++ #[rawInt pos.line, rawInt pos.col, .ref c']))) c' (CodeO c' (X.env.qual ++ "<lambda>"))) := fun b o e n => by
      rw [upd_ne (ne_of_none e nC), upd_ne (fun z => n ps (Option.some.inj (e.symm.trans (by rw [z]; exact hP))))]
      exact e
    have hT1 : Tabs T (upd (upd H P (.tbl (ps ++ #[rawInt pos.line, rawInt pos.col, .ref c']))) c' (CodeO c' (X.env.qual ++ "<lambda>"))) := fun p hp => by
      by_cases hb : p.1 = P
      · rw [hu p hp hb, hb]
        refine ⟨_, by rw [upd_ne (ne_of_none hP nC), upd_same], by rw [eL]; exact PySem.TriplesOk_snoc _ _ _ _ ht, fun p' cv hcv => ?_⟩
        rw [eL] at hcv
        rcases among_app _ ht hcv with z | z
        · obtain ⟨c0, e1, e2⟩ := ha p' cv z
          exact ⟨c0, e1, hE _ _ e2 codeO_ne⟩
        · exact ⟨c', z, upd_same⟩
      · obtain ⟨ps', a1, a2, a3⟩ := hT p hp
        refine ⟨ps', by rw [upd_ne (ne_of_none a1 nC), upd_ne hb]; exact a1, a2, fun p' cv hcv => ?_⟩
        obtain ⟨c0, e1, e2⟩ := a3 p' cv hcv
        exact ⟨c0, e1, hE _ _ e2 codeO_ne⟩
    have nf : (upd (upd H P (.tbl (ps ++ #[rawInt pos.line, rawInt pos.col, .ref c']))) c' (CodeO c' (X.env.qual ++ "<lambda>"))) h'.objs.size = none := I1.hok.fresh (Nat.le_refl _)
    have I2 := I1.laid (a := h'.objs.size) (t' := tk) (h' := h'.push (PySem.W.kla_obj "<lambda>" (X.env.qual ++ "<lambda>") params body scope (cloFrom X.env.cells scope.names []) ((X.mg "__name__").getD .none) c' ctv))
      (o := LamO h'.objs.size (X.env.qual ++ "<lambda>") params body scope (cloFrom X.env.cells scope.names []) c') (fun b u e => Heap.get?_push_of_some _ e) (Nat.le_refl _)
      ⟨⟨_, _, Heap.get?_push_size _ rfl⟩, ⟨_, Heap.get?_push_size _ rfl⟩, fun h1 h2 ⟨pm, ct, e⟩ st => ⟨pm, ct, st _ e⟩⟩
    have sm := Same.new (o := LamO h'.objs.size (X.env.qual ++ "<lambda>") params body scope (cloFrom X.env.cells scope.names []) c') nf
    have nH : H h'.objs.size = none := by
      cases z : H h'.objs.size with
      | none => rfl
      | some o =>
        by_cases hb : h'.objs.size = P
        · have := Heap.lt_size htb
          rw [← hb] at this
          exact absurd this (Nat.lt_irrefl _)
        · have := I.hok.lt z
          exact absurd (Nat.lt_of_lt_of_le this (Nat.le_trans hge (Nat.le_of_lt hlt))) (Nat.lt_irrefl _)
    exact h _ c' _ _ I2 (hE.trans (.of sm)) (hT1.ext sm) nH upd_same (sm _ _ upd_same)
  | some cv =>
    obtain ⟨c', e, hco⟩ := ha pos cv hc
    subst e
    refine PySem.W.kla_makeFunctionHit (mg := X.mg) (c := c) (P := P) (ps := ps) (closure_ok hfree) I.ok.glob (I.mod.glob.keeps I.bk) hcode (TB.code.keeps I.bk) hP' ht hc bP fun ctv h' tk hx hsz => ?_
    have I1 : Inv X pins σ H { s with heap := h', toks := tk } := I.kept hx
    have nf : H h'.objs.size = none := I1.hok.fresh (Nat.le_refl _)
    have I2 := I1.laid (a := h'.objs.size) (t' := tk) (h' := h'.push (PySem.W.kla_obj "<lambda>" (X.env.qual ++ "<lambda>") params body scope (cloFrom X.env.cells scope.names []) ((X.mg "__name__").getD .none) c' ctv))
      (o := LamO h'.objs.size (X.env.qual ++ "<lambda>") params body scope (cloFrom X.env.cells scope.names []) c') (fun b u e => Heap.get?_push_of_some _ e) (Nat.le_refl _)
      ⟨⟨_, _, Heap.get?_push_size _ rfl⟩, ⟨_, Heap.get?_push_size _ rfl⟩, fun h1 h2 ⟨pm, ct, e⟩ st => ⟨pm, ct, st _ e⟩⟩
    have sm := Same.new (o := LamO h'.objs.size (X.env.qual ++ "<lambda>") params body scope (cloFrom X.env.cells scope.names []) c') nf
    exact h _ c' _ _ I2 (.of sm) (hT.ext sm) nf upd_same (sm _ _ hco)
/-- a lambda as a value -/
def tLamV (T : List (Addr × Str)) (q : Str) (params : Arguments) (body : Expr) (scope : Scope) (cl : List (Str × Addr)) : TE := fun _ H Q => Tabs T H ∧ ∀ (f c' : Addr) (H' : Hp), ExtN H H' → Tabs T H' → H f = none →
  H' f = some (LamO f q params body scope cl c') → H' c' = some (CodeO c' q) → Q (.ref f) H'
theorem pe_lamV {T : List (Addr × Str)} {c P : Addr} {q : Str} {params : Arguments} {body : Expr} {scope : Scope} {pos : Pos} (hq : X.env.qual ++ "<lambda>" = q) (TB : TabB X.base X.mg c P) (hcode : X.env.code = .ref c) (hm : (P, q) ∈ T) (hu : ∀ p ∈ T, p.1 = P → p.2 = q)
    (L : LamS X.env.scope scope) (hdef : defaultsOf params X.env = ([], [])) : PE X (.Lambda params body scope pos) (tLamV T q params body scope (cloFrom X.env.cells scope.names [])) := by
  subst hq
  refine ⟨fun pins s σ H Q I h => ?_⟩
  exact lam_make3 I TB hcode hm hu h.1 hdef (L.has I.ok) fun f c' H1 s' I1 eN T1 nf ef ec => ⟨.ref f, H1, I1, rfl, h.2 f c' H1 eN T1 nf ef ec⟩
end
end Y
set_option Elab.async false
set_option linter.all false
set_option maxRecDepth 100000
set_option maxHeartbeats 2000000
/-! a kept lambda is called by the def that got it -/
namespace Y
open PySem PySem.Spec PyProof.Rows L2 LamX
/-- the call of what the def g got, whatever it is: pre is asked of the heap, tl is what the call comes to -/
def Act (X : Cx) (k : Nat) (Ng : List Str) (qg : Str) (sg : Scope) (g : Addr) (cdg : Value) (a : Str) (σ : L2.St) (H : Hp) (f : Addr) (pre : Hp → Prop) (tl : XK → Hp → VK → Prop) : Prop :=
  ∀ (pins : List (Addr × Obj)) (s : Shared), Inv X pins σ H s → ∀ (W : WX) (pn : List (Addr × Obj)) (xe : Value → Shared → Prop) (E : XK) (p1 p2 : Pos),
    Takes ((cxOf C8.CX0 X.prog X.w X.K X.mg X.base Ng qg sg g cdg X.A X.stack s H C8.E0).tr pn xe) W → (∀ cls d σ' H', E cls d H' → W cls d σ' H') → Room k (X.A.deeper (envOfC qg sg s.heap.objs.size g cdg)) →
    PE ((cxOf C8.CX0 X.prog X.w X.K X.mg X.base Ng qg sg g cdg X.A X.stack s H C8.E0).tr pn xe) (.Call (.Name a p1) [] [] p2) (fun σZ HZ Q => σZ[0]? = some (some (.ref f)) ∧ pre HZ ∧ tl E HZ Q)
section
variable {X : Cx}
/-- the maker's frame is alive: its names are read as they are -/
theorem act_live {Ng : List Str} {qg : Str} {sg : Scope} {g f c' : Addr} {cdg : Value} {a : Str} {k : Nat} {σ : L2.St} {H : Hp} {params : Arguments} {body : Expr} {scope : Scope} {tb : XK → TE} (L : LamS X.env.scope scope)
    (hbind : ∀ (pm cv ctv : Value), bindArgs (PySem.W.kla_fn "<lambda>" (X.env.qual ++ "<lambda>") params body scope (cloFrom X.env.cells scope.names []) pm cv ctv) ⟨[], []⟩ = pure [])
    (hbody : ∀ (A : Around) (outer : List Env) (s : Shared) (H : Hp) (E : XK), Room k (A.deeper (lamEnv X scope s.heap.objs.size f c')) → PE (lamCx X A outer s H E scope f c') body (tb E))
    (hN : Ng[0]? = some a) (hv : Vis sg a) (hd : (a == ("__debug__" : Str)) = false := by decide) (hcd : (a == ("__classdict__" : Str)) = false := by decide) :
    Act X (k + 1) Ng qg sg g cdg a σ H f (fun HZ => HZ f = some (LamO f (X.env.qual ++ "<lambda>") params body scope (cloFrom X.env.cells scope.names []) c') ∧ HZ c' = some (CodeO c' (X.env.qual ++ "<lambda>"))) (fun E HZ Q => tb E σ HZ Q) := by
  intro pins s I W pn xe E p1 p2 tk hW hr
  refine ⟨fun pinsZ sZ σZ HZ Q IZ h => ?_⟩
  obtain ⟨hs, ⟨hf, hc⟩, ht⟩ := h
  refine wpAny_Call_Name_kw (thn ((pe_var (pos := p1) (i := 0) hN hv hd hcd).run pinsZ sZ σZ HZ (fun v H1 => v = .ref f ∧ H1 = HZ) IZ ⟨.ref f, hs, rfl, rfl⟩) fun u s1 ⟨v, H1, I1, r1, q1⟩ => ?_)
  obtain ⟨ev, eH⟩ := q1
  subst ev
  rw [eH] at I1
  obtain rfl : u = Value.ref f := r1
  obtain ⟨⟨pm, ctv, of1⟩, _, _⟩ := I1.hok f _ hf
  refine PySem.W.callWith_F0 ⟨_, _, _, _, of1⟩ ?_
  have un : Un (frs X.stack) [] H HZ s.heap s1.heap := I1.base
  obtain ⟨⟨oc, vs, t, hoc, hdc, hvc⟩, _, _⟩ := I1.hok c' _ hc
  have rc : codeAny (model X.prog X.w) (X.A.deeper (envOfC qg sg s.heap.objs.size g cdg)) (.call (.ref f) ⟨[], []⟩) (CR (L2.CX X.prog X.w) (envOfC qg sg s.heap.objs.size g cdg :: X.stack) X.prog X.w HZ s1 Q E) s1 := by
    refine PySem.W.kla_callFunE hr.depth of1 rfl L.co L.gen rfl ⟨c', oc, vs, t, rfl, hoc, hdc, hvc⟩ ?_
    rw [hbind]
    refine wpAny_pure (wpAny_newFunctionEnv (fun y hy => (L.own y hy).2) (fun y hy => absurd hy (by simp)) (fun h₁ hns hsb => ⟨I1.nolimit.fresh _ hsb, ?_⟩) L.kind)
    show codeAny _ _ (.expr body (lamEnv X scope s1.heap.objs.size f c')) _ _
    have kp : ∀ b o, s1.heap.get? b = some o → h₁.get? b = some o := fun b o e => hsb.extBut b o (Nat.ne_of_lt (Heap.lt_size e)) (Heap.get?_push_of_some _ e)
    have J : Inv (lamCx X (X.A.deeper (envOfC qg sg s.heap.objs.size g cdg)) (envOfC qg sg s.heap.objs.size g cdg :: X.stack) s1 HZ E scope f c') [] σ HZ { s1 with heap := h₁, toks := s1.toks + ([] : List (Str × Value)).length } :=
      lam_start2 I L I1.env0 hr.hd un hns kp
    refine PySem.W.kla_codeExpr (wpAny_mono ((hbody _ _ s1 HZ E (hr.deeper _)).run [] _ _ HZ Q J ht) (fun v s' hq => ?_) fun e s' hq => hq)
    obtain ⟨w', H', J', rv, q⟩ := hq
    exact ⟨w', H', J'.os, J'.bare, J'.base, J'.hok, rv, q⟩
  have hx := passes_call tk hW
  refine wpAny_call (codeAny_mono rc fun r s' hq => ?_)
  cases r with
  | error e => exact hx pinsZ σZ HZ s1 e s' I1 hq
  | ok fl =>
    cases fl with
    | ret u => exact I1.after hq
    | next => exact False.elim hq
    | brk => exact False.elim hq
    | cont => exact False.elim hq
/-- the def that calls what it got -/
def GivesP (X : Cx) (k : Nat) (Ng : List Str) (x : Str) (sg : Scope) (g : Addr) (cdg : Value) (bg : List Stmt) (a : Str) (TT : (XK → Hp → VK → Prop) → Hp → VK → Prop) : Prop :=
  ∀ (f : Addr) (pre : Hp → Prop) (s : Shared) (H : Hp) (Q : VK) (tl : XK → Hp → VK → Prop),
    (∀ (W : WX) (pn : List (Addr × Obj)) (xe : Value → Shared → Prop) (E : XK) (p1 p2 : Pos), Takes ((cxOf C8.CX0 X.prog X.w X.K X.mg X.base Ng x sg g cdg X.A X.stack s H C8.E0).tr pn xe) W → (∀ cls d σ' H', E cls d H' → W cls d σ' H') →
      PE ((cxOf C8.CX0 X.prog X.w X.K X.mg X.base Ng x sg g cdg X.A X.stack s H C8.E0).tr pn xe) (.Call (.Name a p1) [] [] p2) (fun σZ HZ Q => σZ[0]? = some (some (.ref f)) ∧ pre HZ ∧ tl E HZ Q)) →
    (∀ H1 H2, Same H1 H2 → pre H1 → pre H2) → pre H → TT tl H Q →
    ∃ t, PSs (cxOf C8.CX0 X.prog X.w X.K X.mg X.base Ng x sg g cdg X.A X.stack s H C8.E0).nox bg t ∧ t { nx := fun _ H' => Q .non H', rt := Q } (L2.start Ng [.ref f]) H
/-- g(y) for a kept lambda y -/
def tSto (X : Cx) (k : Nat) (Ng : List Str) (qg : Str) (sg : Scope) (g : Addr) (cdg : Value) (a : Str) (TT : (XK → Hp → VK → Prop) → Hp → VK → Prop) (i : Nat) : TE := fun σ H Q => ∃ (f : Addr) (pre : Hp → Prop) (tl : XK → Hp → VK → Prop),
  σ[i]? = some (some (.ref f)) ∧ pre H ∧ (∀ H1 H2, Same H1 H2 → pre H1 → pre H2) ∧ Act X k Ng qg sg g cdg a σ H f pre tl ∧ TT tl H Q
theorem pe_stocall {TT : (XK → Hp → VK → Prop) → Hp → VK → Prop} {x y a : Str} {g : Addr} {k i : Nat} {pg : Arguments} {bg : List Stmt} {sg : Scope} {dV kV doc pm cdv ct oc : Value} {an od : Option Addr} {osl : Array (Option Value)} {Ng : List Str} {p p2 pos : Pos}
    (hg : Gl X x) (hm : X.mg x = some (.ref g)) (hk : PySem.W.keepIn X.K (.ref g) = true)
    (lk : X.K.lookup g = some ⟨oc, od, .func (PySem.W.fnOf x x pg bg sg dV kV doc pm an cdv ct), osl⟩) (hcg : PySem.W.codeIn X.K cdv x = true) (hb : L2.Binds X.K (PySem.W.fnOf x x pg bg sg dV kV doc pm an cdv ct) [a] []) (Sg : FnScope Ng [a] sg)
    (hG : GivesP X k Ng x sg g cdv bg a TT) (hr : Room (k + 1) X.A) (hN : X.N[i]? = some y) (hv : Vis X.env.scope y) (hd : (y == ("__debug__" : Str)) = false := by decide) (hcd : (y == ("__classdict__" : Str)) = false := by decide)
    (hdb : (x == ("__debug__" : Str)) = false := by decide) :
    PE X (.Call (.Name x p) [.Name y p2] [] pos) (tSto X k Ng x sg g cdv a TT i) := by
  refine ⟨fun pins s σ H Q I h => ?_⟩
  obtain ⟨f, pre, tl, hs, hp, hst, hact, ht⟩ := h
  refine wpAny_Call_Name_kw (ld_glob I hg hm (PySem.W.callWith_K (h₀ := X.base) I.ok.mod.kin hk (thn ((pa_cons (pe_var (pos := p2) hN hv hd hcd) pa_nil).run pos pins s σ H (fun vs H1 => vs = [.ref f] ∧ H1 = H) I ⟨.ref f, hs, rfl, rfl⟩) fun us s1 ⟨vs, H1, I1, r, q⟩ => ⟨I1.kIn, ?_⟩) (by rfl) (by rfl)) hdb)
  obtain ⟨rfl, rfl⟩ := q
  cases r with
  | cons r1 r2 =>
    cases r2
    obtain rfl := (show _ = Value.ref f from r1)
    have rc : codeAny (model X.prog X.w) X.A (.call (.ref g) ⟨[.ref f], []⟩) (CR C8.CX0 X.stack X.prog X.w H1 s1 Q C8.E0) s1 := by
      refine run_ofS (N := Ng) (ps := [a]) (us := [.ref f]) (vs := [.ref f]) lk hcg Sg hr I1.env0 (hb s1 [.ref f] I1.kIn rfl) (.cons rfl .nil) rfl fun hr' => ?_
      obtain ⟨t', ht', hq'⟩ := hG f pre s1 H1 Q tl (fun W pn xe E p1 p2 tk hW => hact pins s1 I1 W pn xe E p1 p2 tk hW hr') hst hp ht
      exact ⟨t', ht'.nox, hq'⟩
    refine wpAny_call (codeAny_mono rc fun r s2 hq => ?_)
    cases r with
    | error e => exact (show False from hq).elim
    | ok fl =>
      cases fl with
      | ret u => exact I1.after hq
      | next => exact False.elim hq
      | brk => exact False.elim hq
      | cont => exact False.elim hq
end
end Y
set_option Elab.async false
set_option linter.all false
set_option maxRecDepth 100000
set_option maxHeartbeats 2000000
/-! a kept lambda whose maker's frame is gone: its cells are told in the heap -/
namespace Y
open PySem PySem.Spec PyProof.Rows L2 LamX
def forget (D : List Addr) (H : Hp) : Hp := fun b => if b ∈ D then none else H b
def relearn (D : List Addr) (H H' : Hp) : Hp := fun b => if b ∈ D then H b else H' b
def ExtD (D : List Addr) (H : Hp) : Prop := ∀ b ∈ D, ∃ φ, H b = some (.ext φ)
section
variable {P : Program} {w : World} {D : List Addr} {H H' : Hp} {h h' : Heap} {b : Addr} {o : HO}
theorem forget_in (hb : b ∈ D) : forget D H b = none := if_pos hb
theorem forget_out (hb : b ∉ D) : forget D H b = H b := if_neg hb
theorem relearn_in (hb : b ∈ D) : relearn D H H' b = H b := if_pos hb
theorem relearn_out (hb : b ∉ D) : relearn D H H' b = H' b := if_neg hb
theorem ExtD.out (x : ExtD D H) (e : H b = some o) (n : ∀ φ, o ≠ .ext φ) : b ∉ D := fun hb => by
  obtain ⟨φ, e2⟩ := x b hb
  exact n φ (Option.some.inj (e.symm.trans e2))
theorem ExtD.keep (x : ExtD D H) (e : H b = some o) (n : ∀ φ, o ≠ .ext φ) : forget D H b = some o := by rw [forget_out (x.out e n)]; exact e
theorem ExtD.some (x : ExtD D H) (n : H b = none) : b ∉ D := fun hb => by
  obtain ⟨φ, e2⟩ := x b hb
  rw [n] at e2
  cases e2
theorem forget_none (n : H b = none) : forget D H b = none := by
  unfold forget
  split
  · rfl
  · exact n
theorem hok_forget (k : HOk P w H h) (x : ExtD D H) : HOk P w (forget D H) h := fun a o e => by
  have na : a ∉ D := fun z => by rw [forget_in z] at e; cases e
  rw [forget_out na] at e
  exact (k a o e).stay (fun _ _ _ q => q) (fun d q => x.keep q (fun φ z => by cases z)) fun d xs q => x.keep q (fun φ z => by cases z)
/-- the known again: what lay there is unchanged -/
theorem hok_relearn {s : Heap} (k : HOk P w H s) (x : ExtD D H) (k' : HOk P w H' h') (nd : ∀ b ∈ D, H' b = none) (st : ∀ b ∈ D, ∀ o, s.get? b = some o → h'.get? b = some o) : HOk P w (relearn D H H') h' := fun a o e => by
  by_cases ha : a ∈ D
  · rw [relearn_in ha] at e
    obtain ⟨φ, e2⟩ := x a ha
    obtain rfl := Option.some.inj (e2.symm.trans e)
    obtain ⟨f1, ⟨ob, f2⟩, f3⟩ := k a _ e2
    exact ⟨f3 _ _ f1 (st a ha), ⟨ob, st a ha ob f2⟩, f3⟩
  · rw [relearn_out ha] at e
    have out : ∀ d u, H' d = some u → d ∉ D := fun d u q z => by rw [nd d z] at q; cases q
    exact (k' a o e).stay (fun _ _ _ q => q) (fun d q => by rw [relearn_out (out d _ q)]; exact q) fun d xs q => by rw [relearn_out (out d _ q)]; exact q
/-- a call that knows nothing of D, seen by one that does -/
theorem cr_relearn {outer : List Env} {s s' : Shared} {Q : VK} {E : XK} {r : Result} (k : HOk P w H s.heap) (x : ExtD D H) (fr : ∀ b ∈ frs outer, H b = none)
    (c : CR (L2.CX P w) outer P w (forget D H) s (fun v H' => (∀ b ∈ D, H' b = none) → Q v (relearn D H H')) (fun cls d H' => (∀ b ∈ D, H' b = none) → E cls d (relearn D H H')) r s') : CR (L2.CX P w) outer P w H s Q E r s' := by
  have nfr : ∀ b ∈ D, b ∉ frs outer := fun b hb z => x.some (fr b z) hb
  have ex : ∀ b ∈ D, ∃ ob, s.heap.get? b = some ob := fun b hb => by
    obtain ⟨φ, e⟩ := x b hb
    exact (k b _ e).2.1
  have known : ∀ {b : Addr} {u : HO}, H b = some u → (∀ φ, u ≠ .ext φ) → b ∉ D ∧ forget D H b = some u := fun e n => ⟨x.out e n, x.keep e n⟩
  match r, c with
  | .ok (.ret u), c =>
    obtain ⟨v, H', os, bare, un, hok, rv, q⟩ := c
    have nd : ∀ b ∈ D, H' b = none := fun b hb => by
      obtain ⟨ob, e⟩ := ex b hb
      exact un.free b ob e (forget_in hb) (by simp)
    refine ⟨v, relearn D H H', os, bare, ⟨fun b o e n hb hx => un.keep b o e (forget_none n) hb hx, fun b o e n hb hx => un.slot b o e (forget_none n) hb hx, fun b o e n hx => ?_, un.there, fun b xs e => ?_, fun b o u e => ?_, fun b ps e => ?_⟩, ?_, rv, q nd⟩
    · rw [relearn_out (x.some n)]
      exact un.free b o e (forget_none n) hx
    · obtain ⟨h1, h2⟩ := known e (fun φ z => by cases z)
      rw [relearn_out h1]
      exact un.tups b xs h2
    · obtain ⟨h1, h2⟩ := known e (fun φ z => by cases z)
      rw [relearn_out h1]
      exact un.frzs b o u h2
    · obtain ⟨h1, h2⟩ := known e (fun φ z => by cases z)
      rw [relearn_out h1]
      exact un.tbls b ps h2
    · exact hok_relearn k x hok nd fun b hb o e => un.keep b o e (forget_in hb) (nfr b hb) (by simp)
  | .error e, c =>
    obtain ⟨a, B, H', cls, d, eu, fl, hok, ub, na, os, ag, hE⟩ := c
    have nd : ∀ b ∈ D, H' b = none := fun b hb => by
      obtain ⟨ob, e⟩ := ex b hb
      exact ub.free b ob e (forget_in hb)
    have aD : a ∉ D := fun z => by
      obtain ⟨ob, e⟩ := ex a z
      have := ub.keep a ob e (forget_in z) (nfr a z)
      rw [fl.2.1] at this
      cases this
    refine ⟨a, B, relearn D H H', cls, d, eu, fl, hok_relearn k x hok nd fun b hb o e => ub.keep b o e (forget_in hb) (nfr b hb), ⟨fun b o e n hb => ub.keep b o e (forget_none n) hb, ub.slot, fun b o e n => ?_, ub.there, fun b xs e => ?_, fun b o u e => ?_, fun b ps e => ?_⟩, by rw [relearn_out aD]; exact na, os, ag, hE nd⟩
    · rw [relearn_out (x.some n)]
      exact ub.free b o e (forget_none n)
    · obtain ⟨h1, h2⟩ := known e (fun φ z => by cases z)
      rw [relearn_out h1]
      exact ub.tups b xs h2
    · obtain ⟨h1, h2⟩ := known e (fun φ z => by cases z)
      rw [relearn_out h1]
      exact ub.frzs b o u h2
    · obtain ⟨h1, h2⟩ := known e (fun φ z => by cases z)
      rw [relearn_out h1]
      exact ub.tbls b ps h2
end
/-! ### the lambda's context -/
structure LamK (scope : Scope) : Prop where
  kind : scope.kind = .function
  co : scope.isCoroutine = false
  gen : scope.isGenerator = false
  own : ∀ y ∈ scope.names, y.2 ≠ .local ∧ y.2 ≠ .cell
theorem LamS.k {sc scope : Scope} (L : LamS sc scope) : LamK scope := ⟨L.kind, L.co, L.gen, L.own⟩
abbrev dEnv (q : Str) (scope : Scope) (cl : List (Str × Addr)) (L f c' : Addr) : Env := PySem.W.envX q scope L f (.ref c') cl
def lamCxD (P : Program) (w : World) (K : PySem.W.Frag) (mg : Str → Option Value) (base : Heap) (A : Around) (outer : List Env) (s : Shared) (H : Hp) (E : XK) (N : List Str) (q : Str) (scope : Scope) (cl : List (Str × Addr)) (f c' : Addr) : Cx where
  prog := P
  w := w
  K := K
  mg := mg
  base := base
  A := A.deeper (dEnv q scope cl s.heap.objs.size f c')
  N := N
  s_0 := s
  H_0 := H
  env := dEnv q scope cl s.heap.objs.size f c'
  outer := outer
  stack := dEnv q scope cl s.heap.objs.size f c' :: outer
  ex := []
  fn := fun _ => false
  calm := true
  pn := []
  xe := fun e s' => wpAny (model P w) (A.deeper (dEnv q scope cl s.heap.objs.size f c')) (leaving (dEnv q scope cl s.heap.objs.size f c') e) (fun _ s'' => L2.CX P w outer H s E e s'') (fun e' s'' => L2.CX P w outer H s E e' s'') s'
/-- the cells of a frame that is gone, told in the heap -/
structure Dead (H : Hp) (scope : Scope) (cl : List (Str × Addr)) (N : List Str) (σ : L2.St) : Prop where
  inj : ∀ x y c, cl.lookup x = some c → cl.lookup y = some c → x = y
  cell : ∀ y c, cl.lookup y = some c → ∃ v, H c = some (CellO c v)
  has : ∀ y ∈ scope.names, y.2 = .free → ∃ c, cl.lookup y.1 = some c
  val : ∀ (i : Nat) (y : Str) (v : V) (c : Addr), N[i]? = some y → σ[i]? = some (some v) → cl.lookup y = some c → H c = some (CellO c v)
  len : σ.length = N.length
def cellsD (cl : List (Str × Addr)) : List Addr := (cl.filter fun p => cl.lookup p.1 == some p.2).map (·.2)
theorem mem_cellsD {cl : List (Str × Addr)} {c : Addr} : c ∈ cellsD cl ↔ ∃ y, cl.lookup y = some c := by
  unfold cellsD
  constructor
  · intro h
    obtain ⟨p, hp, rfl⟩ := List.mem_map.mp h
    exact ⟨p.1, by simpa using (List.mem_filter.mp hp).2⟩
  · rintro ⟨y, h⟩
    exact List.mem_map.mpr ⟨(y, c), List.mem_filter.mpr ⟨PySem.mem_of_lookup h, by simpa using h⟩, rfl⟩
theorem cellO_ne {c : Addr} {v : V} : ∃ φ, CellO c v = .ext φ := ⟨_, rfl⟩
theorem Dead.ext {H : Hp} {scope : Scope} {cl : List (Str × Addr)} {N : List Str} {σ : L2.St} (d : Dead H scope cl N σ) : ExtD (cellsD cl) H := fun b hb => by
  obtain ⟨y, h⟩ := mem_cellsD.mp hb
  obtain ⟨v, e⟩ := d.cell y b h
  exact ⟨_, e⟩
section
variable {P : Program} {w : World} {K : PySem.W.Frag} {mg : Str → Option Value} {base : Heap} {N : List Str} {σ : L2.St} {H : Hp} {scope : Scope} {cl : List (Str × Addr)}
theorem lamD_start {A : Around} {outer : List Env} {E : XK} {s1 : Shared} {q : Str} {f c' : Addr} {h₁ : Heap} {tk : Nat} (L : LamK scope) (d : Dead H scope cl N σ) (e0 : Env0 P w K mg base A outer s1 H) (hd : A.handled = none)
    (hns : h₁.Ns s1.heap.objs.size fun y => ([] : List (Str × Value)).reverse.lookup y) (kp : ∀ b o, s1.heap.get? b = some o → h₁.get? b = some o) :
    Inv (lamCxD P w K mg base A outer s1 (forget (cellsD cl) H) E N q scope cl f c') [] σ (forget (cellsD cl) H) { s1 with heap := h₁, toks := tk } := by
  have x := d.ext
  have noA : ∀ b : Addr, b ∉ (lamCxD P w K mg base A outer s1 (forget (cellsD cl) H) E N q scope cl f c').ex := fun b z => absurd (show b ∈ ([] : List Addr) from z) (by simp)
  have cellK : ∀ {c : Addr} {v : V}, H c = some (CellO c v) → ∃ u, h₁.IsCell c (some u) ∧ L2.RelV v u := fun {c v} e => by
    obtain ⟨⟨u, ⟨o, ho, hd⟩, r⟩, _, _⟩ := e0.hok c _ e
    exact ⟨u, ⟨o, kp _ _ ho, hd⟩, r⟩
  refine ⟨⟨e0.mod, L.kind, rfl, rfl, Nat.le_refl _, d.inj, fun y hy => ?_, fun y c z _ => ?_, fun _ => hd, Around.frames_deeper e0.frames, .inr ⟨rfl, rfl⟩, fun b z => absurd z (noA b), fun b o e => ⟨(e0.bs b o e).1, forget_none (e0.bs b o e).2⟩, e0.bsz, fun b _ _ => noA b,
      fun b z => absurd z (noA b), e0.funs, fun b hb => forget_none (e0.frf b hb)⟩,
    rfl, e0.bare, Un.kept kp, ⟨_, hns, fun i y v e1 e2 e3 => ?_⟩, fun y c e => ?_, forget_none (e0.hok.fresh (Nat.le_refl _)), fun y c e => ?_, fun q hq => absurd (show q ∈ ([] : List (Addr × Obj)) ++ [] from hq) (by simp), (hok_forget e0.hok x).kept kp, d.len⟩
  · have hy : scope.names.lookup y = some .cell ∨ scope.names.lookup y = some .free := hy
    rcases hy with hy | hy
    · exact absurd rfl (L.own _ (PySem.mem_of_lookup hy)).2
    · exact d.has _ (PySem.mem_of_lookup hy) rfl
  · have z : false = true := z
    cases z
  · have e3 : Vis scope y := e3
    rcases e3 with k | k | k
    · exact absurd rfl (L.own _ (PySem.mem_of_lookup k)).1
    · exact absurd rfl (L.own _ (PySem.mem_of_lookup k)).2
    · obtain ⟨c, hc⟩ := d.has _ (PySem.mem_of_lookup k) rfl
      obtain ⟨u, h1, h2⟩ := cellK (d.val i y v c e1 e2 hc)
      exact ⟨u, h2, .inr ⟨.inr k, c, hc, h1⟩⟩
  · obtain ⟨v, e2⟩ := d.cell y c e
    obtain ⟨u, h1, _⟩ := cellK e2
    exact ⟨some u, h1⟩
  · exact forget_in (mem_cellsD.mpr ⟨y, e⟩)
end
/-- the maker's frame is gone -/
theorem act_dead {X : Cx} {Ng : List Str} {qg q : Str} {sg : Scope} {g f c' : Addr} {cdg : Value} {a : Str} {k : Nat} {σ σl : L2.St} {H : Hp} {N : List Str} {params : Arguments} {body : Expr} {scope : Scope} {cl : List (Str × Addr)} {tb : XK → TE} (L : LamK scope)
    (hbind : ∀ (pm cv ctv : Value), bindArgs (PySem.W.kla_fn "<lambda>" q params body scope cl pm cv ctv) ⟨[], []⟩ = pure [])
    (hbody : ∀ (A : Around) (outer : List Env) (s : Shared) (H : Hp) (E : XK), Room k (A.deeper (dEnv q scope cl s.heap.objs.size f c')) → PE (lamCxD X.prog X.w X.K X.mg X.base A outer s H E N q scope cl f c') body (tb E))
    (hN : Ng[0]? = some a) (hv : Vis sg a) (hd : (a == ("__debug__" : Str)) = false := by decide) (hcd : (a == ("__classdict__" : Str)) = false := by decide) :
    Act X (k + 1) Ng qg sg g cdg a σ H f (fun HZ => HZ f = some (LamO f q params body scope cl c') ∧ HZ c' = some (CodeO c' q) ∧ Dead HZ scope cl N σl)
      (fun E HZ Q => tb (fun cls d H' => (∀ b ∈ cellsD cl, H' b = none) → E cls d (relearn (cellsD cl) HZ H')) σl (forget (cellsD cl) HZ) (fun v H' => (∀ b ∈ cellsD cl, H' b = none) → Q v (relearn (cellsD cl) HZ H'))) := by
  intro pins s I W pn xe E p1 p2 tk hW hr
  refine ⟨fun pinsZ sZ σZ HZ Q IZ h => ?_⟩
  obtain ⟨hs, ⟨hf, hc, hD⟩, ht⟩ := h
  refine wpAny_Call_Name_kw (thn ((pe_var (pos := p1) (i := 0) hN hv hd hcd).run pinsZ sZ σZ HZ (fun v H1 => v = .ref f ∧ H1 = HZ) IZ ⟨.ref f, hs, rfl, rfl⟩) fun u s1 ⟨v, H1, I1, r1, q1⟩ => ?_)
  obtain ⟨ev, eH⟩ := q1
  subst ev
  rw [eH] at I1
  obtain rfl : u = Value.ref f := r1
  obtain ⟨⟨pm, ctv, of1⟩, _, _⟩ := I1.hok f _ hf
  refine PySem.W.callWith_F0 ⟨_, _, _, _, of1⟩ ?_
  obtain ⟨⟨oc, vs, t, hoc, hdc, hvc⟩, _, _⟩ := I1.hok c' _ hc
  have rc : codeAny (model X.prog X.w) (X.A.deeper (envOfC qg sg s.heap.objs.size g cdg)) (.call (.ref f) ⟨[], []⟩) (CR (L2.CX X.prog X.w) (envOfC qg sg s.heap.objs.size g cdg :: X.stack) X.prog X.w HZ s1 Q E) s1 := by
    refine codeAny_mono (R := CR (L2.CX X.prog X.w) (envOfC qg sg s.heap.objs.size g cdg :: X.stack) X.prog X.w (forget (cellsD cl) HZ) s1 (fun v H' => (∀ b ∈ cellsD cl, H' b = none) → Q v (relearn (cellsD cl) HZ H')) (fun cls d H' => (∀ b ∈ cellsD cl, H' b = none) → E cls d (relearn (cellsD cl) HZ H'))) ?_ fun r s' hq => cr_relearn I1.hok hD.ext I1.stkFree hq
    refine PySem.W.kla_callFunE hr.depth of1 rfl L.co L.gen rfl ⟨c', oc, vs, t, rfl, hoc, hdc, hvc⟩ ?_
    rw [hbind]
    refine wpAny_pure (wpAny_newFunctionEnv (fun y hy => (L.own y hy).2) (fun y hy => absurd hy (by simp)) (fun h₁ hns hsb => ⟨I1.nolimit.fresh _ hsb, ?_⟩) L.kind)
    show codeAny _ _ (.expr body (dEnv q scope cl s1.heap.objs.size f c')) _ _
    have kp : ∀ b o, s1.heap.get? b = some o → h₁.get? b = some o := fun b o e => hsb.extBut b o (Nat.ne_of_lt (Heap.lt_size e)) (Heap.get?_push_of_some _ e)
    have J := lamD_start (E := fun cls d H' => (∀ b ∈ cellsD cl, H' b = none) → E cls d (relearn (cellsD cl) HZ H')) (q := q) (f := f) (c' := c') (tk := s1.toks + ([] : List (Str × Value)).length) L hD I1.env0 hr.hd hns kp
    refine PySem.W.kla_codeExpr (wpAny_mono ((hbody _ _ s1 (forget (cellsD cl) HZ) (fun cls d H' => (∀ b ∈ cellsD cl, H' b = none) → E cls d (relearn (cellsD cl) HZ H')) (hr.deeper _)).run [] _ _ _ _ J ht) (fun v s' hq => ?_) fun e s' hq => hq)
    obtain ⟨w', H', J', rv, q⟩ := hq
    exact ⟨w', H', J'.os, J'.bare, J'.base, J'.hok, rv, q⟩
  have hx := passes_call tk hW
  refine wpAny_call (codeAny_mono rc fun r s' hq => ?_)
  cases r with
  | error e => exact hx pinsZ σZ HZ s1 e s' I1 hq
  | ok fl =>
    cases fl with
    | ret u => exact I1.after hq
    | next => exact False.elim hq
    | brk => exact False.elim hq
    | cont => exact False.elim hq
end Y
set_option Elab.async false
set_option linter.all false
set_option maxRecDepth 100000
set_option maxHeartbeats 4000000
namespace Y
open PySem PySem.Spec PyProof.Rows L2 LamX
/-- what a data leans on stands -/
def Lean1 (H H' : Hp) : Prop := ∀ b o, H b = some o → (∀ kvs, o = .dK kvs → kvs = []) → (∀ ps, o ≠ .tbl ps) → (∀ φ, o ≠ .ext φ) → H' b = some o
section
variable {K : PySem.W.Frag} {H H' : Hp}
theorem Lean1.of_ext {H H' : Hp} (s : ExtN H H') : Lean1 H H' := fun b o e _ n _ => s b o e n
theorem Lean1.of_same {H H' : Hp} (s : Same H H') : Lean1 H H' := fun b o e _ _ _ => s b o e
theorem Lean1.trans {H H1 H2 : Hp} (a : Lean1 H H1) (b : Lean1 H1 H2) : Lean1 H H2 := fun c o e h n m => b c o (a c o e h n m) h n m
theorem Lean1.forget {D : List Addr} {H : Hp} (x : ExtD D H) : Lean1 H (forget D H) := fun b o e _ _ n => x.keep e n
theorem Lean1.seqL {a : Addr} {xs : List V} (s : Lean1 H H') (h : SqL K H a xs) : SqL K H' a xs := by
  rcases h with (h | ⟨o, h⟩) | h
  · exact .inl (.inl (s _ _ h (fun _ z => by cases z) (fun _ z => by cases z) (fun _ z => by cases z)))
  · exact .inl (.inr ⟨o, s _ _ h (fun _ z => by cases z) (fun _ z => by cases z) (fun _ z => by cases z)⟩)
  · exact .inr h
theorem Lean1.seqT {a : Addr} {xs : List V} (s : Lean1 H H') (h : SqT K H a xs) : SqT K H' a xs := by
  rcases h with (h | ⟨o, h⟩) | h
  · exact .inl (.inl (s _ _ h (fun _ z => by cases z) (fun _ z => by cases z) (fun _ z => by cases z)))
  · exact .inl (.inr ⟨o, s _ _ h (fun _ z => by cases z) (fun _ z => by cases z) (fun _ z => by cases z)⟩)
  · exact .inr h
mutual
theorem Lean1.dq (s : Lean1 H H') : ∀ {d : PyData} {v : V}, Dq K H d v → Dq K H' d v
  | _, _, .non => .non
  | _, _, .bl b => .bl b
  | _, _, .int i => .int i
  | _, _, .str x => .str x
  | _, _, .lst h t => .lst (s.seqL h) (Lean1.dqs s t)
  | _, _, .tup h t => .tup (s.seqT h) (Lean1.dqs s t)
  | _, _, .dct e => .dct (s _ _ e (fun _ z => by injection z with z; exact z.symm) (fun _ z => by cases z) (fun _ z => by cases z))
theorem Lean1.dqs (s : Lean1 H H') : ∀ {ds : List PyData} {vs : List V}, Dqs K H ds vs → Dqs K H' ds vs
  | _, _, .nil => .nil
  | _, _, .cons h t => .cons (Lean1.dq s h) (Lean1.dqs s t)
end
theorem Lean1.of_but {p l : Addr} {a g c f : Int} (s : But p H H') (h : H p = some (.dK (penD l a g c f))) : Lean1 H H' := fun b o e hd _ _ => s b o (fun z => by
  rw [z, h] at e
  have := hd _ (Option.some.inj e).symm
  cases this) e
theorem Pen.pend {H : Hp} {p l : Addr} {b : Nat} (h : Pen H p l b) : ∃ a g c f, H p = some (.dK (penD l a g c f)) := by
  obtain ⟨ns, a, g, c, f, h1, _⟩ := h.ex
  exact ⟨a, g, c, f, h1⟩
theorem Lean1.of_pen {p l : Addr} {b : Nat} (s : But p H H') (h : Pen H p l b) : Lean1 H H' := by
  obtain ⟨a, g, c, f, e⟩ := h.pend
  exact Lean1.of_but s e
end
/-! ### the value of an expression is a data -/
section
variable {K : PySem.W.Frag} {σ : L2.St}
def EvD (K : PySem.W.Frag) (σ : L2.St) (te : TE) (d : PyData) : Prop := ∀ (H : Hp) (Q : VK), (∀ v H', Same H H' → Dq K H' d v → Q v H') → te σ H Q
def EvDs (K : PySem.W.Frag) (σ : L2.St) (ta : TA) (ds : List PyData) : Prop := ∀ (H : Hp) (Q : List V → Hp → Prop), (∀ vs H', Same H H' → Dqs K H' ds vs → Q vs H') → ta σ H Q
theorem evd_int (i : Int) : EvD K σ (tC (.int i)) (.int i) := fun H Q k => k _ H (fun _ _ e => e) (.int i)
theorem evd_str (z : Str) : EvD K σ (tC (.str z)) (.str z) := fun H Q k => k _ H (fun _ _ e => e) (.str z)
theorem evd_bl (b : Bool) : EvD K σ (tC (.bl b)) (.bool b) := fun H Q k => k _ H (fun _ _ e => e) (.bl b)
theorem evd_non : EvD K σ (tC .non) .none := fun H Q k => k _ H (fun _ _ e => e) .non
theorem evd_var {i : Nat} {z : Int} (h : σ[i]? = some (some (.int z))) : EvD K σ (tVar i) (.int z) := fun H Q k => ⟨_, h, k _ H (fun _ _ e => e) (.int z)⟩
theorem evd_neg {te : TE} {i : Int} (h : EvD K σ te (.int i)) : EvD K σ (tUn (rU fun i => .int (-i)) te) (.int (-i)) := fun H Q k => h H _ fun v H' s d => by
  cases d
  exact ⟨i, rfl, k _ H' s (.int (-i))⟩
theorem evds_nil : EvDs K σ tNil [] := fun H Q k => k _ H (fun _ _ e => e) .nil
end
end Y
set_option Elab.async false
set_option linter.all false
set_option maxRecDepth 100000
set_option maxHeartbeats 2000000
/-! a def whose lambdas outlive it: at its end its cells are told in the heap -/
namespace Y
open PySem PySem.Spec PyProof.Rows L2 LamX
theorem wp_execs_app {M : Model} {Γ} {env : Env} {b : List Stmt} {Q : Flow → Pos → Shared → Prop} {E : Value → Pos → Shared → Prop} : ∀ {a : List Stmt} {p : Pos} {s : Shared},
    Sem.wp M Γ (execs a env) (fun f p' s' => match f with | .next => Sem.wp M Γ (execs b env) Q E p' s' | f => Q f p' s') E p s → Sem.wp M Γ (execs (a ++ b) env) Q E p s
  | [], _, _, h => h
  | st :: a, p, s, h => by
    rw [List.cons_append, execs_cons, Sem.wp_bind']
    rw [execs_cons, Sem.wp_bind'] at h
    refine Sem.wp_mono M Γ _ (fun f p' s' h' => ?_) (fun _ _ _ h' => h') _ _ h
    cases f with
    | next => exact wp_execs_app (a := a) h'
    | brk => exact h'
    | cont => exact h'
    | ret v => exact h'
theorem wpAny_execs_app {M : Model} {A : Around} {env : Env} {a b : List Stmt} {Q : Flow → Shared → Prop} {E : Value → Shared → Prop} {s : Shared}
    (h : wpAny M A (execs a env) (fun f s' => match f with | .next => wpAny M A (execs b env) Q E s' | f => Q f s') E s) : wpAny M A (execs (a ++ b) env) Q E s := fun Γ p hΓ => by
  refine wp_execs_app (Sem.wp_mono M Γ _ (fun f p' s' h' => ?_) (fun _ _ _ h' => h') _ _ (h Γ p hΓ))
  cases f with
  | next => exact h' Γ p' hΓ
  | brk => exact h'
  | cont => exact h'
  | ret v => exact h'
theorem cellsFrom_mem : ∀ {names : List (Str × NameKind)} {n : Nat} {acc : List (Str × Addr)} {z : Str} {c : Addr}, (z, c) ∈ cellsFrom n names acc → (z, c) ∈ acc ∨ (z, NameKind.cell) ∈ names
  | [], _, _, _, _, h => .inl h
  | (m, kd) :: r, n, acc, z, c, h => by
    unfold cellsFrom at h
    split at h
    · rename_i hk
      have hk : kd = .cell := by simpa using hk
      subst hk
      rcases cellsFrom_mem h with q | q
      · rcases List.mem_cons.mp q with q | q
        · cases q
          exact .inr List.mem_cons_self
        · exact .inl q
      · exact .inr (List.mem_cons_of_mem _ q)
    · rcases cellsFrom_mem h with q | q
      · exact .inl q
      · exact .inr (List.mem_cons_of_mem _ q)
/-- what is known of the cells when the def ends -/
structure Learnt (cells : List (Str × Addr)) (N : List Str) (σ : L2.St) (H H' : Hp) : Prop where
  same : Same H H'
  inj : ∀ x y c, cells.lookup x = some c → cells.lookup y = some c → x = y
  new : ∀ y c, cells.lookup y = some c → H c = none
  val : ∀ (i : Nat) (y : Str) (v : V) (c : Addr), N[i]? = some y → σ[i]? = some (some v) → cells.lookup y = some c → H' c = some (CellO c v)
open Classical in
noncomputable def learn (cells : List (Str × Addr)) (N : List Str) (σ : L2.St) (H : Hp) : Hp := fun b =>
  if h : ∃ v : V, ∃ (i : Nat) (y : Str), N[i]? = some y ∧ σ[i]? = some (some v) ∧ cells.lookup y = some b then some (CellO b h.choose) else H b
theorem run_ofD {CX : CXT} {P : Program} {w : World} {K : PySem.W.Frag} {mg : Str → Option Value} {base : Heap} {k i : Nat} {f : Addr} {name qual y : Str} {params : Arguments} {body init : List Stmt} {scope : Scope} {dV kV doc pm cdv ct oc : Value} {an od : Option Addr} {p1 p2 : Pos}
    {osl : Array (Option Value)} {N ps : List Str} (lk : K.lookup f = some ⟨oc, od, .func (PySem.W.fnOf name qual params body scope dV kV doc pm an cdv ct), osl⟩) (hcd : PySem.W.codeIn K cdv qual = true) (S : FnScope N ps scope)
    {A : Around} {outer : List Env} {s : Shared} {H : Hp} {args : Args} {us : List Value} {vs : List V} {Q : VK} {E : XK} (hr : Room (k + 1) A) (e0 : Env0 P w K mg base A outer s H) (hb : BindsTo s (PySem.W.fnOf name qual params body scope dV kV doc pm an cdv ct) args (ps.zip us)) (r : Vals vs us) (hl : vs.length = ps.length)
    (hbd : body = init ++ [.Return (some (.Name y p1)) p2]) (hN : N[i]? = some y) (hv : Vis scope y) (nfree : ∀ z, scope.names.lookup z = some .cell ↔ ∃ c, (cellsFrom (s.heap.objs.size + 1) scope.names []).lookup z = some c)
    (hbody : Room k (A.deeper (envOfC qual scope s.heap.objs.size f cdv)) → ∃ t, PSs (cxOf CX P w K mg base N qual scope f cdv A outer s H E) init t ∧
      t { nx := fun σ' H' => ∃ v, σ'[i]? = some (some v) ∧ ∀ H'', Learnt (cellsFrom (s.heap.objs.size + 1) scope.names []) N σ' H' H'' → Q v H'', rt := fun _ _ => False } (L2.start N vs) H)
    (hd : (y == ("__debug__" : Str)) = false := by decide) (hcd2 : (y == ("__classdict__" : Str)) = false := by decide) :
    codeAny (model P w) A (.call (.ref f) args) (CR CX outer P w H s Q E) s := by
  have KX : K.In s.heap := e0.mod.kin.keeps fun b o e => (e0.bs b o e).1
  have lim : s.heap.NoLimit := e0.mod.nolimit.keeps fun b o e => (e0.bs b o e).1
  have hkind : ∀ z ∈ ps.zip us, scope.names.lookup z.1 = some .local ∨ (scope.names.lookup z.1 = some .cell ∧ ((cellsFrom (s.heap.objs.size + 1) scope.names []).lookup z.1).isSome = true) := fun ⟨n, v⟩ hy => by
    rcases S.par n (List.of_mem_zip hy).1 with q | q
    · exact .inl q
    · exact .inr ⟨q, PySem.W.cellsFrom_some _ _ _ (.inl q)⟩
  refine codeAny_call_function hr.depth (KX _ _ lk) rfl S.co S.gen rfl (PySem.W.codeRec_of KX hcd) (hb _ _ _ _ ?_)
  refine wpAny_newFunctionEnv_cells S.kind hkind fun env he s1 x => ?_
  subst he
  refine ⟨lim.keeps x.toInCall.keep, codeAny_func ?_⟩
  obtain ⟨t, ht, hq⟩ := hbody (hr.deeper _)
  have I : Inv (cxOf CX P w K mg base N qual scope f cdv A outer s H E) [] (L2.start N vs) H s1 := inv_start S hr.hd e0 hl r x
  show wpAny _ _ (execs body _) _ _ _
  rw [hbd]
  refine wpAny_execs_app (wpAny_mono (ht.run [] s1 (L2.start N vs) H _ I hq) (fun fl s' hs => ?_) fun e s' hs => hs)
  cases fl with
  | ret u =>
    obtain ⟨_, _, _, _, _, q⟩ := hs
    exact False.elim q
  | brk =>
    obtain ⟨_, _, _, q⟩ := hs
    exact False.elim q
  | cont =>
    obtain ⟨_, _, _, q⟩ := hs
    exact False.elim q
  | next =>
    obtain ⟨σ', H', J, v, hs, q⟩ := hs
    have cell0 : ∀ z c, (cellsFrom (s.heap.objs.size + 1) scope.names []).lookup z = some c → s.heap.objs.size ≤ c := fun z c e => J.ok.cab z c rfl e
    show wpAny _ _ (execs [.Return (some (.Name y p1)) p2] _) _ _ _
    refine wpAny_execs_cons (wpAny_Return_some (thn ((pe_var (X := cxOf CX P w K mg base N qual scope f cdv A outer s H E) (pos := p1) (i := i) hN hv hd hcd2).run [] s' σ' H' (fun v1 H1 => v1 = v ∧ H1 = H') J ⟨v, hs, rfl, rfl⟩) fun u s2 ⟨v1, H1, J1, rv, q1⟩ => ?_))
    obtain ⟨rfl, rfl⟩ := q1
    show CE outer P w H s Q u s2
    have uniq : ∀ {b : Addr} {v v' : V} {i j : Nat} {z z' : Str}, N[i]? = some z → σ'[i]? = some (some v) → (cellsFrom (s.heap.objs.size + 1) scope.names []).lookup z = some b → N[j]? = some z' → σ'[j]? = some (some v') → (cellsFrom (s.heap.objs.size + 1) scope.names []).lookup z' = some b → v = v' := fun {b v v' i j z z'} a1 a2 a3 b1 b2 b3 => by
      obtain rfl := J1.ok.inj z z' b a3 b3
      obtain ⟨hi, ei⟩ := List.getElem?_eq_some_iff.mp a1
      obtain ⟨hj, ej⟩ := List.getElem?_eq_some_iff.mp b1
      have : i = j := (List.getElem_inj S.nd).mp (ei.trans ej.symm)
      subst this
      rw [a2] at b2
      exact Option.some.inj (Option.some.inj b2)
    have L : Learnt (cellsFrom (s.heap.objs.size + 1) scope.names []) N σ' H1 (learn (cellsFrom (s.heap.objs.size + 1) scope.names []) N σ' H1) := by
      refine ⟨fun b o e => ?_, J1.ok.inj, J1.freeC, fun i z v c e1 e2 e3 => ?_⟩
      · unfold learn
        rw [dif_neg]
        · exact e
        rintro ⟨v, i, z, e1, e2, e3⟩
        have n : H1 b = none := J1.freeC z b e3
        rw [n] at e
        cases e
      · have h : ∃ v : V, ∃ (i : Nat) (y : Str), N[i]? = some y ∧ σ'[i]? = some (some v) ∧ (cellsFrom (s.heap.objs.size + 1) scope.names []).lookup y = some c := ⟨v, i, z, e1, e2, e3⟩
        unfold learn
        rw [dif_pos h]
        obtain ⟨j, z', a1, a2, a3⟩ := h.choose_spec
        rw [uniq a1 a2 a3 e1 e2 e3]
    have lk2 : ∀ b o, learn (cellsFrom (s.heap.objs.size + 1) scope.names []) N σ' H1 b = some o → H1 b = some o ∨ (s.heap.objs.size ≤ b ∧ H1 b = none ∧ ∃ v u, o = CellO b v ∧ s2.heap.IsCell b (some u) ∧ L2.RelV v u) := fun b o e => by
      unfold learn at e
      split at e
      · rename_i h
        obtain ⟨j, z', a1, a2, a3⟩ := h.choose_spec
        refine .inr ⟨cell0 z' b a3, J1.freeC z' b a3, h.choose, ?_⟩
        have vz : scope.names.lookup z' = some .cell := (nfree z').mpr ⟨b, a3⟩
        obtain ⟨m, hn, hl⟩ := J1.loc
        obtain ⟨u, r1, r2⟩ := hl j z' _ a1 a2 (.inr (.inl vz))
        refine ⟨u, (Option.some.inj e).symm, ?_, r1⟩
        rcases r2 with ⟨k', _⟩ | ⟨_, c3, e', z⟩
        · have k' : scope.names.lookup z' = some .local := k'
          rw [vz] at k'
          cases k'
        · have e' : (cellsFrom (s.heap.objs.size + 1) scope.names []).lookup z' = some c3 := e'
          rw [a3] at e'
          cases e'
          exact z
      · exact .inl e
    refine ⟨v1, _, J1.os, J1.bare, ⟨J1.base.keep, J1.base.slot, fun b o e n hx => ?_, J1.base.there, fun b xs e => L.same _ _ (J1.base.tups b xs e), fun b o u e => L.same _ _ (J1.base.frzs b o u e), fun b ps e => ?_⟩, fun a o e => ?_, rv, q _ L⟩
    · have n1 : H1 b = none := J1.base.free b o e n hx
      cases z : learn (cellsFrom (s.heap.objs.size + 1) scope.names []) N σ' H1 b with
      | none => rfl
      | some o' =>
        rcases lk2 b o' z with h | ⟨h, _⟩
        · rw [n1] at h; cases h
        · exact absurd (Nat.lt_of_lt_of_le (Heap.lt_size e) h) (Nat.lt_irrefl _)
    · obtain ⟨more, e2⟩ := J1.base.tbls b ps e
      exact ⟨more, L.same _ _ e2⟩
    · rcases lk2 a o e with h | ⟨_, _, v, u, rfl, hc, r⟩
      · exact (J1.hok a o h).stay (fun _ _ _ q => q) (fun d q => L.same _ _ q) fun d xs q => L.same _ _ q
      · obtain ⟨ob, ho, hd⟩ := id hc
        exact ⟨⟨u, hc, r⟩, ⟨ob, ho⟩, fun h1 h2 ⟨u, ⟨o, e1, e2⟩, r⟩ st => ⟨u, ⟨o, st o e1, e2⟩, r⟩⟩
/-- a def by its body, all but its last `return y` -/
theorem okLearn {P : Program} {w : World} {K : PySem.W.Frag} {mg : Str → Option Value} {base : Heap} {x qual y : Str} {st : Stmt} {f c : Addr} {fd : FuncData} {N ps : List Str} {k i : Nat} {sp : Sp} {init : List Stmt} {p1 p2 : Pos} (F : Fun K x qual st f fd) (hc : fd.code = .ref c) (S : FnScope N ps (defScope st))
    (len : ∀ vs H Q E, sp vs H Q E → vs.length = ps.length) (hbd : defBody st = init ++ [.Return (some (.Name y p1)) p2]) (hN : N[i]? = some y) (hv : Vis (defScope st) y) (hcl : ∀ z ∈ (defScope st).names, z.2 = .cell → (defScope st).names.lookup z.1 = some .cell)
    (body : ∀ (A : Around) (outer : List Env) (s : Shared) (H : Hp) (vs : List V) (Q : VK) (E : XK), Room k (A.deeper (envOfC qual (defScope st) s.heap.objs.size f (.ref c))) → sp vs H Q E →
      ∃ t, PSs (cxOf CX0 P w K mg base N qual (defScope st) f (.ref c) A outer s H E).nox init t ∧
        t { nx := fun σ' H' => ∃ v, σ'[i]? = some (some v) ∧ ∀ H'', Learnt (cellsFrom (s.heap.objs.size + 1) (defScope st).names []) N σ' H' H'' → Q v H'', rt := fun _ _ => False } (L2.start N vs) H)
    (hd : (y == ("__debug__" : Str)) = false := by decide) (hcd2 : (y == ("__classdict__" : Str)) = false := by decide) : FnOk P w K mg base CX0 (k + 1) f fd ps sp := by
  obtain ⟨oc, od, kV, doc, pm, an, cdv, ct, osl, rfl, lk, hcd⟩ := F.ex
  have hc : cdv = .ref c := hc
  subst hc
  refine ⟨len, fun A outer s H args us vs Q E hr e0 hb r q => run_ofD lk hcd S hr e0 hb r (len _ _ _ _ q) hbd hN hv (fun z => ⟨fun h => cell_has h, fun ⟨c, h⟩ => ?_⟩) (fun hr' => ?_) hd hcd2⟩
  · rcases cellsFrom_mem (PySem.mem_of_lookup h) with q | q
    · cases q
    · exact hcl _ q rfl
  · obtain ⟨t, h1, h2⟩ := body A outer s H vs Q E hr' q
    exact ⟨t, h1.nox, h2⟩
end Y
set_option Elab.async false
set_option linter.all false
set_option maxRecDepth 100000
set_option maxHeartbeats 2000000
/-! several clauses «except C as n», all with one name -/
namespace Y
open PySem PySem.Spec PyProof.Rows L2
abbrev Cl := Value × (Addr → Value → Option Addr → TS)
/-- what the clauses wish, one behind the other -/
def wEach (K : PySem.W.Frag) (i : Nat) (Wout : WX) (D : Ends) : List Cl → WX
  | [] => Wout
  | p :: r => wAs K p.1 i p.2 (wEach K i Wout D r) D
inductive Clauses (X : Cx) (n : Str) : List ExceptHandler → List Cl → Prop
  | nil : Clauses X n [] []
  | cons {x : Str} {c : Value} {ts : Addr → Value → Option Addr → TS} {s₁ : Stmt} {ss : List Stmt} {p1 p2 : Pos} {hs : List ExceptHandler} {l : List Cl} (nm : Names X x c)
      (su : ∀ (a : Addr) (oe : Obj) (cls : Value) (d : Option Addr) (pn : List (Addr × Obj)), Zc cls d oe → (∃ vs, oe.data = .fields vs) → PSs (X.suite a ((a, oe) :: pn)) (s₁ :: ss) (ts a cls d)) (r : Clauses X n hs l) :
      Clauses X n (.ExceptHandler (some (.Name x p1)) (some n) (s₁ :: ss) p2 :: hs) ((c, ts) :: l)
section
variable {X : Cx} {n : Str} {i : Nat} {body : List Stmt} {hs : List ExceptHandler} {h₁ : ExceptHandler} {l : List Cl} {pos : Pos} {tb : WX → TS} {Wout : WX}
theorem ps_try_each (stk : X.stack = X.env :: X.outer) (frm : X.env.frame = some X.env.locals) (nd : X.N.Nodup) (hi : X.N[i]? = some n) (loc : X.env.kindOf n = some .local) (tk : Takes X Wout)
    (hb : ∀ (W : WX) (pn : List (Addr × Obj)) (xe : Value → Shared → Prop), Takes (X.tr pn xe) W → PassesOwn (model X.prog X.w) X.A X.env xe → PSs (X.tr pn xe) body (tb W)) (hh : Clauses X n (h₁ :: hs) l) :
    PS X (.Try body (h₁ :: hs) [] [] pos) (fun D σ H => tb (wEach X.K i Wout D l) D σ H) := by
  refine ⟨fun pins s σ H D I h => ?_⟩
  have okX := I.ok
  have frs' : X.A.frames = some (X.env :: X.outer) := by rw [okX.frames, stk]
  refine wpAny_Try_except (wpAny_mono ((hb (wEach X.K i Wout D l) (X.pn ++ pins) (fun e s₁ => wpAny (model X.prog X.w) X.A (noteFrame e X.env) (fun _ s₂ => wpAny (model X.prog X.w) X.A (setFlight e none)
    (fun _ s₃ => wpAny (model X.prog X.w) X.A (handleBy e X.env (h₁ :: hs)) (SP X pins D) X.xe s₃) X.xe s₂) X.xe s₁) (fun u s' caught => ?_) PassesOwn.looking).run [] s σ H D (I.toTry _) h) (fun f s1 fine => ?_) (fun e s1 z => z))
  · obtain ⟨a, B, sI, pins', σ', H', cls, d, rfl, J', nb, up, sky, na, os, ag, wish⟩ := caught
    have J : Inv X pins σ' H' sI := J'.ofTry okX
    show wpAny (model X.prog X.w) X.A (noteFrame (.ref a) X.env) _ _ _
    refine Sky.land Zc.steady frs' frm (by rw [← stk]; exact sky) fun h3 fl3 up3 => ?_
    have J3 : Inv X pins σ' H' { s' with heap := h3 } := J.landed nb fl3.1 (up.trans up3) os ag
    obtain ⟨o3, v3, at3, zc3, fd3⟩ := fl3.there
    have far : a ∉ frs (X.env :: X.outer) := fun hm => by
      obtain ⟨_, o', e', other⟩ := fl3.2.2.1.mem hm
      rw [at3] at e'; cases e'
      exact other _ fd3
    have nL : a ≠ X.env.locals := fun z => far (List.mem_filterMap.mpr ⟨X.env, List.mem_cons_self, by rw [frm, z]⟩)
    have nF : a ∉ X.fs := fun hm => by
      obtain ⟨e, he, q⟩ := List.mem_filterMap.mp hm
      exact far (List.mem_filterMap.mpr ⟨e, .tail _ he, q⟩)
    have S3 := J3.suite at3 fd3 na nL nF
    have go : ∀ {ks : List ExceptHandler} {m : List Cl}, Clauses X n ks m → wEach X.K i Wout D m cls d σ' H' → wpAny (model X.prog X.w) X.A (handleBy (.ref a) X.env ks) (SP X pins D) X.xe { s' with heap := h3 } := by
      intro ks m hk
      induction hk with
      | nil =>
        intro w
        refine wpAny_handleBy_nil ?_
        obtain ⟨_, _, _, oe, vs, T, oT, ts', he, _, hd, h1, _⟩ := id fl3
        unfold PySem.passOn
        refine wpAny_bind (wpAny_field he hd h1 ?_)
        rw [if_neg (show ¬ ((Value.ref T == Value.none) = true) by simp)]
        have last : wpAny (model X.prog X.w) X.A (setFlight (.ref a) X.env.frame) (fun _ s4 => wpAny (model X.prog X.w) X.A (throw (.ref a) : Sem Flow) (SP X pins D) X.xe s4) X.xe { s' with heap := h3 } := by
          rw [frm]
          exact HandSPX.setFlight_upZ fl3 fun h4 hh4 up4 => wpAny_throw (tk _ _ ⟨a, B, sI, pins, σ', H', cls, d, rfl, J, nb, (up.trans up3).trans up4, .inr (.inr (by rw [stk]; exact hh4)), na, os, ag, w⟩)
        first
          | exact wpAny_bind (wpAny_pure (wpAny_bind last))
          | exact wpAny_bind last
      | @cons x c ts s₁ ss p1 p2 hs2 l2 nm su r ih =>
        intro w
        obtain ⟨b, hit, yes, no⟩ := w
        have looks : PySem.W.Looks (model X.prog X.w) h3 (typeOf (.ref a)) cls := fun A Q E s k q => wpAny_typeOf_ref (k _ _ at3) (by rw [zc3.1]; exact q)
        have tells := PySem.W.exm_one (M := model X.prog X.w) (J3.kIn) looks hit
        have name : ∀ {Q : Value → Shared → Prop} {E : Value → Shared → Prop}, Q c { s' with heap := h3 } → wpAny (model X.prog X.w) (X.A.mark (some (.ref a))) (eval (.Name x p1) X.env) Q E { s' with heap := h3 } := fun {Q E} q => by
          obtain ⟨hg, hdbg, hm | ⟨hm, hv, hnn⟩⟩ := nm
          · exact ld_glob (X := X.suite a ((a, o3) :: (X.pn ++ pins))) S3 hg hm q hdbg
          · exact ld_blt (X := X.suite a ((a, o3) :: (X.pn ++ pins))) S3 hg hm hv q hnn hdbg
        refine wpAny_handleBy_cons (codeAny_handlers_test (name (tells.here ?_))) (fun q => nomatch q)
        cases b with
        | true =>
          refine codeAny_handlers_suite_as (HandSPX.lands_againZ fl3 fun h4 fl4 up4 => ?_)
          have J4 : Inv X pins σ' H' { s' with heap := h4 } := J.landed nb fl4.1 ((up.trans up3).trans up4) os ag
          obtain ⟨o4, v4, at4, zc4, fd4⟩ := fl4.there
          have S4 := J4.suite at4 fd4 na nL nF
          refine store_ok (X := X.suite a ((a, o4) :: (X.pn ++ pins))) (v := .ref a) S4 nd hi (.inl loc) rfl (fun s5 S5 => ?_) (.inr loc)
          refine wpAny_mono ((su a o4 cls d (X.pn ++ pins) zc4 ⟨_, fd4⟩).run [] s5 _ H' _ S5 (yes rfl a na)) (fun f s6 out => ?_) (fun _ _ z => z.elim)
          have off : ∀ {σ6 : L2.St} {H6 : Hp} {Q : Shared → Prop}, Inv (X.suite a ((a, o4) :: (X.pn ++ pins))) [] σ6 H6 s6 → (∀ s7, Inv X pins (σ6.set i none) H6 s7 → Q s7) →
              wpAny (model X.prog X.w) X.A (do bindName X.env n .none; unbindBehindTheSuite X.env n p2) (fun _ s7 => Q s7) X.xe s6 := fun {σ6 H6 Q} S6 hq => gone_ok (S6.unsuite okX) nd hi loc hq
          cases f with
          | next => obtain ⟨σ6, H6, S6, q6⟩ := out; exact off S6 fun s7 J7 => ⟨_, _, J7, q6⟩
          | brk => obtain ⟨σ6, H6, S6, q6⟩ := out; exact off S6 fun s7 J7 => ⟨_, _, J7, q6⟩
          | cont => obtain ⟨σ6, H6, S6, q6⟩ := out; exact off S6 fun s7 J7 => ⟨_, _, J7, q6⟩
          | ret u => obtain ⟨v6, σ6, H6, S6, r6, q6⟩ := out; exact off S6 fun s7 J7 => ⟨_, _, _, J7, r6, q6⟩
        | false => exact ih (no rfl)
    exact go hh wish
  · cases f with
    | next => obtain ⟨σ2, H2, J2, q⟩ := fine; exact wpAny_execs_nil ⟨σ2, H2, J2.ofTry okX, q⟩
    | brk => obtain ⟨σ2, H2, J2, q⟩ := fine; exact ⟨σ2, H2, J2.ofTry okX, q⟩
    | cont => obtain ⟨σ2, H2, J2, q⟩ := fine; exact ⟨σ2, H2, J2.ofTry okX, q⟩
    | ret u => obtain ⟨v, σ2, H2, J2, r, q⟩ := fine; exact ⟨v, σ2, H2, J2.ofTry okX, r, q⟩
end
end Y
set_option Elab.async false
set_option linter.all false
set_option maxRecDepth 100000
set_option maxHeartbeats 2000000
namespace Y
open PySem PySem.Spec PyProof.Rows L2
theorem flat_intsV (ys : List Int) : (ys.map V.int).all flatV = true := by
  rw [List.all_map, List.all_eq_true]
  intro y _
  rfl
/-- t.index(z) in a tuple of ints: its first place -/
def rTupIx (K : PySem.W.Frag) : V → List V → Hp → VK → Prop := fun x xs H Q => ∃ (p : Addr) (ys : List Int) (z : Int) (j : Nat), x = .ref p ∧ xs = [.int z] ∧ SqT K H p (ys.map V.int) ∧ ys[j]? = some z ∧ (∀ m, m < j → ys[m]? ≠ some z) ∧ Q (.int (j : Nat)) H
theorem mt_tupIx {X : Cx} : MtR X "tuple.index" (rTupIx X.K) := by
  intro pins s σ H x xs v us Q I rx rs h
  obtain ⟨p, ys, z, j, rfl, rfl, hq, hy, hno, q⟩ := h
  cases rx
  obtain ⟨u, rfl, t, rfl⟩ := vals1 rs
  obtain ⟨its, r, ⟨⟨cls, dd, dt, sl⟩, ho, hc, n, hd⟩, hz⟩ := I.tuple hq
  simp only at hc hd
  subst hc hd
  have len : its.toArray.size = ys.length := by rw [List.size_toArray, ← r.length, List.length_map]
  have itm : ∀ (m : Nat) (hm : m < its.toArray.size), ∃ y t', ys[m]? = some y ∧ its.toArray[m] = Value.int y t' := fun m hm => by
    have hm' : m < ys.length := by rw [← len]; exact hm
    obtain ⟨w, hw, t', hw'⟩ := r.get (i := m) (x := .int ys[m]) (by simp [hm'])
    exact ⟨ys[m], t', List.getElem?_eq_getElem hm', by have e := (List.getElem?_eq_some_iff.mp hw).2; rw [← hw', ← e]; simp⟩
  have hj : j < its.toArray.size := by rw [len]; exact (List.getElem?_eq_some_iff.mp hy).1
  refine call_meets PySem.F.slot_tuple_index ⟨_, ho, rfl⟩ PySem.F.entry_tuple_index (PySem.F.args_tuple_index_2 _ _) (TI.tuple_indexAt p its.toArray n dd sl (.int z t) (eqU (.int z)) j hj ?_ ?_)
    ⟨ho, fun w hw => mem_eqAt (x := .int z) ⟨t, rfl⟩ rfl r (flat_intsV ys) w (by simpa using hw), ⟨.int (j : Nat), H, I.tok _, ⟨_, rfl⟩, q⟩⟩
  · obtain ⟨y, t', h1, h2⟩ := itm j hj
    rw [hy] at h1
    cases h1
    rw [h2]
    show (z == z) = true
    exact beq_self_eq_true z
  · intro m hm hmj
    obtain ⟨y, t', h1, h2⟩ := itm m hm
    rw [h2]
    show (y == z) = false
    exact beq_eq_false_iff_ne.mpr fun e => hno m hmj (by rw [h1, e])
end Y
set_option Elab.async false
set_option linter.all false
set_option maxRecDepth 100000
set_option maxHeartbeats 2000000
/-! tuples that are known to have no dict of their own: their methods can be called -/
namespace Y
open PySem PySem.Spec PyProof.Rows L2
def PlT (H : Hp) (a : Addr) : Prop := ∃ (o : Obj) (u : HO), H a = some (.frz o u) ∧ o.dict = none ∧ o.cls = .type "tuple"
/-- a tuple just made -/
def NewT (H : Hp) (a : Addr) (ys : List V) (H' : Hp) : Prop := ∃ o : Obj, H a = none ∧ H' = upd H a (.frz o (.tup ys)) ∧ o.dict = none ∧ o.cls = .type "tuple"
section
variable {K : PySem.W.Frag} {H H' : Hp} {a : Addr} {ys : List V}
theorem NewT.sq (h : NewT H a ys H') : SqT K H' a ys := by
  obtain ⟨o, _, rfl, _⟩ := h
  exact .inl (.inr ⟨o, upd_same⟩)
theorem NewT.pl (h : NewT H a ys H') : PlT H' a := by
  obtain ⟨o, _, rfl, h1, h2⟩ := h
  exact ⟨o, _, upd_same, h1, h2⟩
theorem NewT.same (h : NewT H a ys H') : Same H H' := by
  obtain ⟨o, n, rfl, _⟩ := h
  exact Same.new n
theorem PlT.kp (h : PlT H a) (s : Kp H H') : PlT H' a := by
  obtain ⟨o, u, e, r⟩ := h
  exact ⟨o, u, s _ _ e (fun _ z => by cases z), r⟩
end
def rTupF (K : PySem.W.Frag) : List V → Hp → VK → Prop := fun xs H Q => ∃ (p : Addr) (ys : List V), xs = [.ref p] ∧ ((SqL K H p ys ∧ ∀ l H', NewT H l ys H' → Q (.ref l) H') ∨ (SqT K H p ys ∧ Q (.ref p) H))
theorem call_tupF {X : Cx} : CallR X (.type "tuple") (rTupF X.K) := by
  intro pins s σ H xs us Q I r h
  obtain ⟨p, ys, rfl, h⟩ := h
  obtain ⟨u, rfl, rx⟩ := vals1 r
  cases rx
  rcases h with ⟨hq, q⟩ | ⟨hq, q⟩
  · obtain ⟨its, rv, pl, hz⟩ := I.list hq
    have hlen := rv.length
    refine call_tuple_list pl.isList (fun h' kp => ?_) (by rw [List.size_toArray]; omega)
    have J : Inv X pins σ H { s with heap := h' } := I.kept (t' := s.toks) kp
    have fr := J.hok.fresh (Nat.le_refl _)
    have at0 : (h'.push { cls := .type "tuple", data := .seq its.toArray }).get? h'.objs.size = some { cls := .type "tuple", data := .seq its.toArray } := Heap.get?_push_size _ rfl
    refine ⟨.ref h'.objs.size, upd H h'.objs.size (.frz { cls := .type "tuple", data := .seq its.toArray } (.tup ys)), J.laid (t' := s.toks) (fun b o e => Heap.get?_push_of_some _ e) (Nat.le_refl _) ⟨at0, hz, its, rv, IsTup.new _ _⟩, rfl, q _ _ ⟨_, fr, rfl, rfl, rfl⟩⟩
  · obtain ⟨its, rv, pl, hz⟩ := I.tuple hq
    exact call_tuple_same pl ⟨.ref p, H, I, rfl, q⟩
def tTM (to : TE) (t : TA) (r : V → List V → Hp → VK → Prop) : TE := fun σ H Q => to σ H fun x H1 => (∃ p, x = .ref p ∧ PlT H1 p) ∧ t σ H1 fun xs H2 => r x xs H2 Q
/-- t.m(e), t a tuple without a dict -/
theorem pe_tm {X : Cx} {o e : Expr} {es : List Expr} {to : TE} {t : TA} {name : Str} {apos cpos : Pos} {id : String} {r : V → List V → Hp → VK → Prop} (slot : Slot "tuple" name id) (ty : typeOf (.builtin id) = pure (.type "method_descriptor")) (rule : MtR X id r) (ho : PE X o to) (ha : PA X (e :: es) t)
    (base : attributeBase o name X.env (eval o X.env) = eval o X.env := by rfl)
    (few : ((backTo cpos (starEach (e :: es) X.env)).all (fun x => !x.1) && (backToKw cpos (keywordEach [] X.env)).all (fun x => x.1.isSome) && decide ((e :: es).length + ([] : List Keyword).length + (if ([] : List Keyword).isEmpty then 0 else 1) < 30)) = true := by rfl)
    (line : (apos.endLine == cpos.line) = true := by rfl) (hs : starEach (e :: es) X.env = (false, eval e X.env) :: starEach es X.env := by rfl) (plain : (backTo cpos (starEach es X.env)).any (·.1) = false := by rfl) :
    PE X (.Call (.Attribute o name apos) (e :: es) [] cpos) (tTM to t r) := by
  refine ⟨fun pins s σ H Q I h => wpAny_Call_method_late base few line rfl (thn (ho.run pins s σ H _ I h) fun v s1 hv => ?_)⟩
  obtain ⟨x, H1, I1, r1, ⟨p, rfl, o', u, eo, d0, c0⟩, q1⟩ := hv
  obtain rfl : v = Value.ref p := r1
  obtain ⟨e1, _⟩ := (show ObjOk X.prog X.w H1 s1.heap p (.frz o' u) from I1.hok p _ eo)
  refine ⟨"tuple", id, PySem.F.plainAttrs_tuple, slot, ty, ⟨o', e1, c0⟩, fun a z => by cases z; exact ⟨o', e1, d0⟩, ?_⟩
  have hA := ha.run cpos pins s1 σ H1 _ I1 q1
  rw [hs] at hA ⊢
  exact Calls.callWith_builtin (by show (false || (backTo cpos (starEach es X.env)).any (·.1)) = false; rw [plain]; rfl) (Calls.evalArgs_plain (thn hA fun us s2 ⟨vs, H2, I2, r2, q2⟩ => rule pins s2 σ H2 (.ref p) vs (.ref p) us Q I2 rfl r2 q2))
end Y
set_option Elab.async false
set_option linter.all false
set_option maxRecDepth 100000
set_option maxHeartbeats 2000000
namespace L2
open PySem PySem.Spec PyProof.Rows
/-! ### t[lo:hi] and t + u of tuples, whatever comes out new -/
def rSlU (K : PySem.W.Frag) : V → Option Int → Option Int → Hp → VK → Prop := fun x lo hi H Q => ∃ a xs, x = .ref a ∧ SqT K H a xs ∧ ∀ u H', SqT K H' u (cutV xs lo hi) → Same H H' → Q (.ref u) H'
theorem cut_whole {xs : List V} {lo hi : Option Int} (h : HT.sIx xs.length 0 lo = 0 ∧ HT.sIx xs.length xs.length hi = xs.length) : cutV xs lo hi = xs := by
  unfold cutV
  rw [h.1, h.2, List.drop_zero, Nat.sub_zero, List.take_length]
theorem sl_tupU {X : Cx} : SlR X (rSlU X.K) := by
  intro pins s σ H x v vl vu lo hi sl Q I rx hs pl pu h
  obtain ⟨a, xs, rfl, hx, k⟩ := h
  refine sl_tupA pins s σ H _ v vl vu lo hi sl Q I rx hs pl pu ⟨a, xs, rfl, hx, fun hw => ?_, fun _ p hp => k p _ (SqT.of upd_same) (Y.Same.new hp)⟩
  have := k a H (by rw [cut_whole hw]; exact hx) (fun _ _ e => e)
  exact this
def rCatU (K : PySem.W.Frag) : R2 := fun x y H Q => ∃ a b xs ys, x = .ref a ∧ y = .ref b ∧ SqT K H a xs ∧ SqT K H b ys ∧ xs.length + ys.length ≤ sizeLine ∧ ∀ u H', SqT K H' u (xs ++ ys) → Same H H' → Q (.ref u) H'
theorem op_catU {X : Cx} : OpR X (binaryOp .Add) (rCatU X.K) := by
  intro pins s σ H x y v u Q I rx ry h
  obtain ⟨a, b, xs, ys, rfl, rfl, ha, hb, hz, k⟩ := h
  refine op_catA pins s σ H _ _ v u Q I rx ry ⟨a, b, xs, ys, rfl, rfl, ha, hb, hz, fun e => ?_, fun _ e => ?_, fun _ _ p hp => k p _ (SqT.of upd_same) (Y.Same.new hp)⟩
  · subst e
    exact k b H hb (fun _ _ e => e)
  · subst e
    exact k a H (by rw [List.append_nil]; exact ha) (fun _ _ e => e)
theorem cut_d1 (xs : List V) : cutV xs (some 1) none = xs.drop 1 := by
  unfold cutV
  have e := HT.sIx_nat xs.length 0 1
  rw [HT.sIx_none, show (some (1 : Int)) = some ((1 : Nat) : Int) from rfl, e, List.take_of_length_le (by rw [List.length_drop]; exact Nat.le_refl _)]
  cases xs with
  | nil => rfl
  | cons a xs => rw [List.length_cons, Nat.min_eq_left (by omega)]
theorem cut_t1 (xs : List V) : cutV xs none (some 1) = xs.take 1 := by
  unfold cutV
  have e := HT.sIx_nat xs.length xs.length 1
  rw [HT.sIx_none, show (some (1 : Int)) = some ((1 : Nat) : Int) from rfl, e, List.drop_zero, Nat.sub_zero]
  cases xs with
  | nil => rfl
  | cons a xs => rw [List.length_cons, Nat.min_eq_left (by omega)]
end L2
namespace Y
open PySem L2
theorem cut_to {xs : List V} {d : Int} (h0 : 0 ≤ d) (h1 : d ≤ xs.length) : cutV xs none (some d) = xs.take d.toNat := by
  obtain ⟨k, rfl⟩ : ∃ k : Nat, d = (k : Int) := ⟨d.toNat, by omega⟩
  unfold cutV
  rw [HT.sIx_none, List.drop_zero, HT.sIx_nat, Nat.sub_zero, Nat.min_eq_left (by omega)]
  rfl
theorem cut_from {xs : List V} {d : Int} (h0 : 0 ≤ d) (h1 : d ≤ xs.length) : cutV xs (some d) none = xs.drop d.toNat := by
  obtain ⟨k, rfl⟩ : ∃ k : Nat, d = (k : Int) := ⟨d.toNat, by omega⟩
  unfold cutV
  rw [HT.sIx_none, HT.sIx_nat, Nat.min_eq_left (by omega)]
  exact List.take_of_length_le (by rw [List.length_drop]; exact Nat.le_refl _)
end Y
set_option Elab.async false
set_option linter.all false
set_option maxRecDepth 100000
set_option maxHeartbeats 2000000
/-! own errors with one field or two, raised -/
namespace Y
open PySem PySem.Spec PyProof.Rows L2
/-- what is raised: an error of the class at C with the fields fs -/
def RaisedF (C : Addr) (fs : List (Str × V)) (H : Hp) (E : XK) : Prop := ∀ (d : Addr) (H' : Hp), Same H H' → H' d = some (.xd fs) → E (.ref C) (some d) H'
theorem RaisedF.same {C : Addr} {fs : List (Str × V)} {H H' : Hp} {E : XK} (r : RaisedF C fs H E) (s : Same H H') : RaisedF C fs H' E := fun d H2 s2 e => r d H2 (s.trans s2) e
/-- an own error of one field: its name nm, its class at C, its first method at fI -/
structure XE1 (K : PySem.W.Frag) (mg : Str → Option Value) (nm fld : Str) (C fI : Addr) : Prop where
  g : mg nm = some (.ref C)
  xc : XcC K C
  i : PySem.W.findIn K (.ref C) "__init__" = some (some (.ref fI))
  t : PySem.W.typeIn K (.ref fI) = some (.type "function")
  n : PySem.W.findIn K (.ref C) fld = some none
structure XE2 (K : PySem.W.Frag) (mg : Str → Option Value) (nm fld fld2 : Str) (C fI : Addr) : Prop where
  g : mg nm = some (.ref C)
  xc : XcC K C
  i : PySem.W.findIn K (.ref C) "__init__" = some (some (.ref fI))
  t : PySem.W.typeIn K (.ref fI) = some (.type "function")
  n : PySem.W.findIn K (.ref C) fld = some none
  n2 : PySem.W.findIn K (.ref C) fld2 = some none
def spX2 (C : Addr) (f g : Str) : Sp := fun vs H Q _ => ∃ (a : Addr) (v w : V), vs = [.ref a, v, w] ∧ H a = some (exo a C none) ∧
  ∀ dx H', H dx = none → dx ≠ a → (∀ b o, b ≠ a → H b = some o → H' b = some o) → H' a = some (exo a C (some dx)) → H' dx = some (exd dx [(g, w), (f, v)]) → Q .non H'
theorem mk2 {C : Addr} {f g : Str} {v w : V} {H1 : Hp} {Q : XK} (h : ∀ (d : Addr) (H' : Hp), Same H1 H' → H1 d = none → H' d = some (.xd [(g, w), (f, v)]) → Q (.ref C) (some d) H') :
    ([v, w] : List V).length ≤ 1000 ∧ ∀ a, H1 a = none → spX2 C f g (.ref a :: ([v, w] ++ [])) (upd H1 a (exo a C none))
      (fun u H2 => u = .non ∧ ∃ (d : Addr) (fs : List (Str × V)), H2 a = some (exo a C (some d)) ∧ H2 d = some (exd d fs) ∧ H1 d = none ∧ Q (.ref C) (some d) (upd (del H2 a) d (.xd fs))) (fun _ _ _ => False) := by
  refine ⟨by show 2 ≤ 1000; decide, fun a ha => ⟨a, v, w, rfl, upd_same, fun dx H2 hd hne st e1 e2 => ⟨rfl, dx, [(g, w), (f, v)], e1, e2, by rw [upd_ne hne] at hd; exact hd, ?_⟩⟩⟩
  have hd1 : H1 dx = none := by rw [upd_ne hne] at hd; exact hd
  refine h dx _ (fun b o e => ?_) hd1 upd_same
  have n1 : b ≠ dx := ne_of_none e hd1
  have n2 : b ≠ a := ne_of_none e ha
  rw [upd_ne n1, del_ne n2]
  exact st b o n2 (by rw [upd_ne n2]; exact e)
/-- raised: the reading of `raise C(v)` -/
theorem mkF1 {C : Addr} {f : Str} {v : V} {H1 : Hp} {Q : XK} (h : RaisedF C [(f, v)] H1 Q) :
    ([v] : List V).length ≤ 1000 ∧ ∀ a, H1 a = none → spX1 C f (.ref a :: ([v] ++ [])) (upd H1 a (exo a C none))
      (fun u H2 => u = .non ∧ ∃ (d : Addr) (fs : List (Str × V)), H2 a = some (exo a C (some d)) ∧ H2 d = some (exd d fs) ∧ H1 d = none ∧ Q (.ref C) (some d) (upd (del H2 a) d (.xd fs))) (fun _ _ _ => False) :=
  mk1 fun d H' s _ e => h d H' s e
end Y
namespace Y
open PySem
def top (i : Nat) : Stmt := PySem.Challenge.pw_slideyards_k10_lots_refused.main.body.getD i (.Pass ⟨0, 0, 0, 0⟩)
end Y
set_option Elab.async false
set_option linter.all false
set_option maxRecDepth 100000
set_option maxHeartbeats 4000000
namespace Y
open PySem L2
abbrev sPen : Stmt := top 43
abbrev sDraw : Stmt := top 44
abbrev sPick : Stmt := top 45
structure TxP (K : PySem.W.Frag) (mg : Str → Option Value) (fDraw : Addr) : Prop where
  int : mg "int" = none
  list : mg "list" = none
  len : mg "len" = none
  gDraw : mg "_law_draw" = some (.ref fDraw)
section
variable {P : Program} {w : World} {K : PySem.W.Frag} {mg : Str → Option Value} {base : Heap}
theorem scPen : FnScope ["_law_script", "_law_fold", "_law_cell"] ["_law_script"] (defScope sPen) := ⟨rfl, rfl, rfl, by decide +kernel, rfl, by decide +kernel, by decide +kernel⟩
theorem ok_pen {f fDraw : Addr} {fd : FuncData} (F : Fun K "_law_pen" "_law_pen" sPen f fd) (T : TxP K mg fDraw) : FnOk P w K mg base CX0 1 f fd ["_law_script"] (spPen K) := by
  refine F.ok scPen (fun vs H Q E h => ?_) (fun cdv A outer s H vs Q E hr h => ?_)
  · obtain ⟨a, ns, rfl, _⟩ := h
    rfl
  · obtain ⟨a, ns, rfl, hS, hlen, k⟩ := h
    refine ⟨_, pss_cons (ps_set (i := 1) scPen.nd rfl (Or.inl rfl) pe_int)
      (pss_cons (ps_for PassesOwn.never rfl (pi_list (pv 0)) (pg_name (i := 2) scPen.nd rfl (Or.inl rfl))
        (pss_one (ps_set (i := 1) scPen.nd rfl (Or.inl rfl) (pe_op op_mod (pe_callTy call_int1 (by rfl) T.int (by decide +kernel) (pa_cons (pe_op op_add (pe_op op_mul (pv 1) pe_int) (pv 2)) pa_nil)) pe_int))))
      (pss_one (ps_ret (pe_disp (pps_cons pe_str (pe_callTy call_list_of (by rfl) T.list (by decide +kernel) (pa_cons (pv 0) pa_nil)) (pps_cons pe_str pe_int (pps_cons pe_str pe_int (pps_cons pe_str pe_int (pps_cons pe_str (pv 1) pps_nil))))) (by rfl) (by rfl) (fun z => by cases z) (by decide))))), ?_⟩
    refine ⟨_, rfl, a, rfl, ⟨_, hS⟩, for_list (K := K) (a := a) (xs := ns.map V.int) (fun i σ H2 => ∃ (f : Int) (v : Option V), σ = [some (.ref a), some (.int f), v] ∧ H2 = H ∧ 0 ≤ f ∧ f < 1000000007)
      ⟨0, none, rfl, rfl, by decide, by decide⟩ (fun i σ H2 _ ⟨_, _, _, e, _⟩ => by rw [e]; exact hS) ?_ ?_⟩
    · rintro i y σ H2 hi ⟨f, v, rfl, rfl, h0, h1⟩
      obtain ⟨z, rfl⟩ : ∃ z, y = V.int z := by
        rw [List.getElem?_map] at hi
        cases e : ns[i]? with
        | none =>
          rw [e] at hi
          cases hi
        | some z =>
          rw [e] at hi
          exact ⟨z, (Option.some.inj hi).symm⟩
      refine ⟨_, rfl, _, _, rfl, rfl, .inl ⟨by omega, by omega⟩, _, rfl, _, _, rfl, rfl, .inl ⟨_, rfl, _, _, rfl, rfl, (by show (0 : Int) < 1000000007; decide), ?_⟩⟩
      exact ⟨_, _, rfl, rfl, Int.emod_nonneg _ (by decide), Int.emod_lt_of_pos _ (by decide)⟩
    · rintro σ H2 ⟨f, v, rfl, rfl, h0, h1⟩
      intro p hp
      refine ⟨_, rfl, a, _, rfl, .inl ((Same.new hp).seq hS), fun l hl => ?_⟩
      have hpl : p ≠ l := fun e => by rw [← e, upd_same] at hl; cases hl
      have hl0 : H2 l = none := by rw [upd_ne (Ne.symm hpl)] at hl; exact hl
      refine ⟨_, rfl, (by rw [upd_ne hpl]; exact upd_same), [(Sum.inr "cells", .ref l), (Sum.inr "at", .int 0), (Sum.inr "digits", .int 0), (Sum.inr "count", .int 0), (Sum.inr "fold", .int f)], rfl, (by show 5 ≤ 15; decide), ?_⟩
      refine k p l _ ⟨⟨ns, 0, 0, 0, f, ?_, ?_, hlen, by decide, by decide, by decide, by decide, h0, by omega⟩⟩ ?_ hp
      · rw [upd_same]
        exact congrArg (fun z => some (HO.dK z)) pen_merge
      · rw [upd_ne (Ne.symm hpl)]; exact upd_same
      · intro b o e
        rw [upd_ne (ne_of_none e hp), upd_ne (ne_of_none e hl0), upd_ne (ne_of_none e hp)]
        exact e
theorem scDraw : FnScope ["_law_pen_here", "_law_many", "_law_cell", "_law_digit", "_law_blend"] ["_law_pen_here", "_law_many"] (defScope sDraw) := ⟨rfl, rfl, rfl, by decide +kernel, rfl, by decide +kernel, by decide +kernel⟩
theorem ok_draw {f fDraw : Addr} {fd : FuncData} (F : Fun K "_law_draw" "_law_draw" sDraw f fd) (T : TxP K mg fDraw) : FnOk P w K mg base CX0 1 f fd ["_law_pen_here", "_law_many"] spDraw := by
  refine F.ok scDraw (fun vs H Q E h => ?_) (fun cdv A outer s H vs Q E hr h => ?_)
  · obtain ⟨p, l, m, b, rfl, _⟩ := h
    rfl
  · obtain ⟨p, l, m, b, rfl, hP, hm0, hm1, k⟩ := h
    have hu := hu_of hr
    obtain ⟨ns, a, g, c, f, hp, hl, hlen, ha, hg, hc, hcb, hf0, hf1⟩ := hP.ex
    refine ⟨_, pss_cons (ps_dput hu (pv 0) pe_str (pe_op op_add (pe_dget hu (pv 0) pe_str (fun _ _ => rfl)) pe_int) rfl)
      (C8.pss_cut (ps_if (PW.pt (pw_and (pt_cmpR op_eq (pe_dget hu (pv 0) pe_str (fun _ _ => rfl)) pe_int (nomark _)) (pw_and1 (pt_cmpR op_lt (pe_dget hu (pv 0) pe_str (fun _ _ => rfl)) (pe_callB call_len_seq (by rfl) T.len PySem.boot_len (pa_cons (pe_dget hu (pv 0) pe_str (fun _ _ => rfl)) pa_nil)) (nomark _)))))
        (pss_cons (ps_set (i := 2) scDraw.nd rfl (Or.inl rfl) (pe_ix ix_list (pe_dget hu (pv 0) pe_str (fun _ _ => rfl)) (pe_dget hu (pv 0) pe_str (fun _ _ => rfl)) (fun _ _ => rfl)))
        (pss_cons (ps_dput hu (pv 0) pe_str (pe_op op_add (pe_dget hu (pv 0) pe_str (fun _ _ => rfl)) pe_int) rfl)
        (pss_one (ps_if (pt_cmpR op_ge (pv 2) (pe_op op_pow pe_int pe_int) (nomark _))
          (pss_one (ps_dput hu (pv 0) pe_str (pe_op op_sub (pv 2) (pe_op op_pow pe_int pe_int)) rfl))
          (pss_one (ps_dput hu (pv 0) pe_str (pe_op op_mod (pe_callTy call_int1 (by rfl) T.int (by decide +kernel) (pa_cons (pe_op op_add (pe_op op_mul (pe_dget hu (pv 0) pe_str (fun _ _ => rfl)) pe_int) (pv 2)) pa_nil)) pe_int) rfl))))))
        pss_nil)
      (pss_cons (ps_if (pt_cmpR op_gt (pe_dget hu (pv 0) pe_str (fun _ _ => rfl)) pe_int (nomark _))
        (pss_cons (ps_set (i := 3) scDraw.nd rfl (Or.inl rfl) (pe_op op_mod (pe_callTy call_int1 (by rfl) T.int (by decide +kernel) (pa_cons (pe_dget hu (pv 0) pe_str (fun _ _ => rfl)) pa_nil)) (pv 1)))
        (pss_cons (ps_dput hu (pv 0) pe_str (pe_op op_fdivW (pe_dget hu (pv 0) pe_str (fun _ _ => rfl)) (pv 1)) rfl)
        (pss_one (ps_ret (pv 3)))))
        pss_nil)
      (pss_cons (ps_set (i := 4) scDraw.nd rfl (Or.inl rfl) (pe_op op_add (pe_op op_add (pe_dget hu (pv 0) pe_str (fun _ _ => rfl)) (pe_op op_mul (pe_dget hu (pv 0) pe_str (fun _ _ => rfl)) pe_int)) pe_int))
      (pss_one (ps_ret (pe_op op_mod (pe_op op_fdiv (pe_callTy call_int1 (by rfl) T.int (by decide +kernel) (pa_cons (pe_op op_mod (pe_op op_pow (pv 4) pe_int) pe_int) pa_nil)) pe_int) (pv 1))))))), ?_⟩
    have hlp : l ≠ p := ne_of hl hp (by intro z; cases z)
    have e1 : ∀ {a' g' c' f' : Int}, (upd H p (.dK (penD l a' g' c' f'))) p = some (.dK (penD l a' g' c' f')) := upd_same
    have mk : ∀ {a' g' c' f' : Int}, 0 ≤ a' → 0 ≤ g' → 0 ≤ c' → c' + (b : Int) ≤ 2 ^ 40 → 0 ≤ f' → f' < 2147483587 → Pen (upd H p (.dK (penD l a' g' c' f'))) p l b := fun h2 h3 h4 h5 h6 h7 =>
      ⟨ns, _, _, _, _, upd_same, by rw [upd_ne hlp]; exact hl, hlen, h2, h3, h4, h5, h6, h7⟩
    refine ⟨_, rfl, _, _, rfl, get_count hp, _, _, rfl, rfl, _, rfl, _, _, rfl, dput_count hp, ?_⟩
    refine ⟨fun σ' H' => ∃ (a' g' f' : Int) (v : Option V), σ' = [some (.ref p), some (.int m), v, none, none] ∧ H' = upd H p (.dK (penD l a' g' (c + 1) f')) ∧ 0 ≤ a' ∧ 0 ≤ g' ∧ 0 ≤ f' ∧ f' < 2147483587, ?_, ?_⟩
    · refine ⟨_, rfl, _, _, rfl, get_digits e1, rfl, _, rfl, ?_⟩
      refine ite2 (fun hd => ?_) (fun hd => ?_)
      · refine ⟨_, rfl, _, _, rfl, get_at e1, _, rfl, _, _, rfl, get_cells e1, l, _, rfl, .inl (.inl (.inl (by rw [upd_ne hlp]; exact hl))), _, _, rfl, rfl, _, rfl, ?_⟩
        refine ite2 (fun hd2 => ?_) (fun hd2 => ?_)
        · have hd3 : a < ((ns.map V.int).length : Int) := of_decide_eq_true hd2
          obtain ⟨y, hy, hy2⟩ := there_int ha hd3
          obtain ⟨z, hz, rfl⟩ := ints_at hy
          refine ⟨_, rfl, _, _, rfl, get_cells e1, _, rfl, _, _, rfl, get_at e1, l, _, a, _, rfl, rfl, .inl (.inl (by rw [upd_ne hlp]; exact hl)), hy2, ?_⟩
          refine ⟨_, rfl, _, _, rfl, get_at e1, _, _, rfl, rfl, _, rfl, _, _, rfl, dput_at, ?_⟩
          refine ⟨_, rfl, _, _, rfl, rfl, ⟨by decide, by decide, by decide⟩, _, _, rfl, rfl, _, rfl, ?_⟩
          refine ite2 (fun hd4 => ?_) (fun hd4 => ?_)
          · have hd5 : (10 : Int) ^ (18 : Int).toNat ≤ z := of_decide_eq_true hd4
            refine ⟨_, rfl, _, _, rfl, rfl, ⟨by decide, by decide, by decide⟩, _, _, rfl, rfl, _, rfl, _, _, rfl, dput_digits, ?_⟩
            exact ⟨_, _, _, _, rfl, rfl, by omega, by omega, hf0, hf1⟩
          · refine ⟨_, rfl, _, _, rfl, get_fold e1, _, _, rfl, rfl, .inl ⟨by omega, by omega⟩, _, rfl, _, _, rfl, rfl, .inl ⟨_, rfl, _, _, rfl, rfl, (by show (0 : Int) < 2147483587; decide), _, rfl, _, _, rfl, dput_fold, ?_⟩⟩
            exact ⟨_, _, _, _, rfl, rfl, by omega, hg, Int.emod_nonneg _ (by decide), Int.emod_lt_of_pos _ (by decide)⟩
        · exact ⟨_, _, _, _, rfl, rfl, ha, hg, hf0, hf1⟩
      · exact ⟨_, _, _, _, rfl, rfl, ha, hg, hf0, hf1⟩
    · rintro σ' H' ⟨a', g', f', v, rfl, rfl, ha', hg', hf0', hf1'⟩
      refine ⟨_, rfl, _, _, rfl, get_digits e1, _, _, rfl, rfl, _, rfl, ?_⟩
      refine ite2 (fun hd => ?_) (fun hd => ?_)
      · refine ⟨_, rfl, _, _, rfl, get_digits e1, .inl ⟨_, rfl, _, rfl, _, _, rfl, rfl, hm0, ?_⟩⟩
        refine ⟨_, rfl, _, _, rfl, get_digits e1, _, rfl, _, _, rfl, rfl, wide_div hm0 (b := 41) (by omega) (by decide) (by decide), _, rfl, _, _, rfl, dput_digits, ?_⟩
        refine ⟨_, rfl, ?_⟩
        exact k _ _ (Int.emod_nonneg _ (by omega)) (Int.emod_lt_of_pos _ hm0) (mk ha' (Int.ediv_nonneg hg' (by omega)) (by omega) (by omega) hf0' hf1') But.upd
      · refine ⟨_, rfl, _, _, rfl, get_fold e1, _, rfl, _, _, rfl, get_count e1, _, _, rfl, rfl, .inl ⟨by omega, by omega⟩, _, _, rfl, rfl, _, _, rfl, rfl, ?_⟩
        refine ⟨_, rfl, _, _, rfl, rfl, ⟨by decide, by decide, by omega⟩, _, _, rfl, rfl, (by show (0 : Int) < 2305843009213693951; decide), .inl ⟨_, rfl, _, _, rfl, rfl, ⟨by decide, by decide⟩, _, rfl, _, _, rfl, rfl, hm0, ?_⟩⟩
        exact k _ _ (Int.emod_nonneg _ (by omega)) (Int.emod_lt_of_pos _ hm0) (mk ha' hg' (by omega) (by omega) hf0' hf1') But.upd
theorem scPick : FnScope ["_law_pen_here", "_law_some"] ["_law_pen_here", "_law_some"] (defScope sPick) := ⟨rfl, rfl, rfl, by decide +kernel, rfl, by decide +kernel, by decide +kernel⟩
theorem ok_pick {f fDraw : Addr} {fd fdDraw : FuncData} (F : Fun K "_law_pick" "_law_pick" sPick f fd) (T : TxP K mg fDraw) (FD : Fun K "_law_draw" "_law_draw" sDraw fDraw fdDraw) (bD : Binds K fdDraw ["_law_pen_here", "_law_many"] []) :
    FnOk P w K mg base CX0 2 f fd ["_law_pen_here", "_law_some"] (spPick K) := by
  have GD : FnOk P w K mg base CX0 1 fDraw fdDraw ["_law_pen_here", "_law_many"] spDraw := ok_draw FD T
  refine F.ok scPick (fun vs H Q E h => ?_) (fun cdv A outer s H vs Q E hr h => ?_)
  · obtain ⟨p, q, l, xs, b, rfl, _⟩ := h
    rfl
  · obtain ⟨p, q, l, xs, b, rfl, hP, hl, hne, hz, k⟩ := h
    refine ⟨_, pss_one (ps_ret (pe_ix (IxR.or ix_list ix_tup) (pv 1) (pe_call GD hr (by rfl) T.gDraw FD.kp bD .nil pass0 (pa_cons (pv 0) (pa_cons (pe_callB call_len_seq (by rfl) T.len PySem.boot_len (pa_cons (pv 1) pa_nil)) pa_nil))) (fun _ _ => rfl))), ?_⟩
    have hpos := List.length_pos_iff.mpr hne
    obtain ⟨kvs, hpd⟩ := hP.there
    refine ⟨_, rfl, _, rfl, _, rfl, l, xs, rfl, hl, p, q, _, b, rfl, hP, by omega, by omega, fun n H' h0 h1 hP' hB => ?_⟩
    obtain ⟨y, hy, hy2⟩ := there_int h0 h1
    rcases hl with hl | hl
    · exact .inl ⟨l, xs, n, y, rfl, rfl, hB.seq hpd hl, hy2, k y _ _ hy hP' hB⟩
    · exact .inr ⟨l, xs, n, y, rfl, rfl, hB.seqT hpd hl, hy2, k y _ _ hy hP' hB⟩
end
end Y
set_option Elab.async false
set_option linter.all false
set_option maxRecDepth 100000
set_option maxHeartbeats 4000000
namespace Y
open PySem L2
abbrev sRing : Stmt := top 48
abbrev sStand : Stmt := top 49
abbrev sShuf : Stmt := top 53
structure TG (K : PySem.W.Frag) (mg : Str → Option Value) (fDraw : Addr) : Prop where
  p : TxP K mg fDraw
  range : mg "range" = none
  tuple : mg "tuple" = none
/-! ### promises -/
def spShuf (K : PySem.W.Frag) : Sp := fun vs H Q _ => ∃ (p c s : Addr) (xs : List V) (b : Nat), vs = [.ref p, .ref s] ∧ Pen H p c (b + xs.length) ∧ (SqL K H s xs ∨ SqT K H s xs) ∧ xs.length ≤ 1000 ∧
  ∀ q ys H', ys.Perm xs → H' q = some (.lst ys) → Kp H H' → Pen H' p c b → Q (.ref q) H'
/-- distinct places, three or more -/
def RingOk (n : Nat) (r : List Int) : Prop := r.Nodup ∧ (∀ x ∈ r, 0 ≤ x ∧ x < n) ∧ 3 ≤ r.length ∧ r.length ≤ n
def spRing (K : PySem.W.Frag) : Sp := fun vs H Q _ => ∃ (p c : Addr) (n b : Nat), vs = [.ref p, .int (n : Int)] ∧ Pen H p c (b + (n + 1)) ∧ 3 ≤ n ∧ n ≤ 100 ∧
  ∀ q r H', RingOk n r → H' q = some (.tup (r.map V.int)) → Kp H H' → Pen H' p c b → Q (.ref q) H'
section
variable {P : Program} {w : World} {K : PySem.W.Frag} {mg : Str → Option Value} {base : Heap} {fDraw : Addr}
theorem scShuf : FnScope ["_law_pen_here", "_law_some", "_law_left", "_law_found", "_law_lap"] ["_law_pen_here", "_law_some"] (defScope sShuf) := ⟨rfl, rfl, rfl, by decide +kernel, rfl, by decide +kernel, by decide +kernel⟩
theorem ok_shuf {f : Addr} {fd fdD : FuncData} (F : Fun K "_law_shuffled" "_law_shuffled" sShuf f fd) (T : TG K mg fDraw) (FD : Fun K "_law_draw" "_law_draw" sDraw fDraw fdD) (bD : Binds K fdD ["_law_pen_here", "_law_many"] []) :
    FnOk P w K mg base CX0 2 f fd ["_law_pen_here", "_law_some"] (spShuf K) := by
  have GD : FnOk P w K mg base CX0 1 fDraw fdD ["_law_pen_here", "_law_many"] spDraw := ok_draw FD T.p
  refine F.ok scShuf (fun vs H Q E h => ?_) (fun cdv A outer s H vs Q E hr h => ?_)
  · obtain ⟨p, c, q, xs, b, rfl, _⟩ := h
    rfl
  · obtain ⟨p, c, q, xs, b, rfl, hP, hS, hl, k⟩ := h
    refine ⟨_, pss_cons (ps_par (i := 2) (j := 3) rfl scShuf.nd rfl rfl (by decide) rfl rfl (pa_cons (pe_callTy call_list_of (by rfl) T.p.list (by decide +kernel) (pa_cons (pv 1) pa_nil)) (pa_cons (pe_lst pa_nil) pa_nil)) (by rfl))
      (pss_cons (ps_for PassesOwn.never rfl (pi_range1 (by rfl) T.range (pa_cons (pe_callB call_len_seq (by rfl) T.p.len PySem.boot_len (pa_cons (pv 1) pa_nil)) pa_nil)) (pg_name (i := 4) scShuf.nd rfl (Or.inl rfl))
        (pss_one (ps_expr (pe_bm PySem.F.plainAttrs_list PySem.F.slot_list_append PySem.F.type_list_append mt_append (pv 3) (pa_cons
          (pe_bm PySem.F.plainAttrs_list PySem.F.slot_list_pop PySem.F.type_list_pop mt_popAt (pv 2) (pa_cons
            (pe_call GD hr (by rfl) T.p.gDraw FD.kp bD .nil pass0 (pa_cons (pv 0) (pa_cons (pe_callB call_len_seq (by rfl) T.p.len PySem.boot_len (pa_cons (pv 2) pa_nil)) pa_nil))) pa_nil)) pa_nil)))))
      (pss_one (ps_ret (pv 3)))), ?_⟩
    obtain ⟨kvs, hk⟩ := hP.there
    refine ⟨_, rfl, q, xs, rfl, hS, fun l hl0 => ⟨(by show 0 ≤ sizeLine; decide), fun g hg0 => ?_⟩⟩
    have hgl : g ≠ l := fun z => by rw [z, upd_same] at hg0; cases hg0
    have hg1 : H g = none := by rw [upd_ne hgl] at hg0; exact hg0
    have hpl : p ≠ l := fun z => by rw [z, hl0] at hk; cases hk
    have hpg : p ≠ g := fun z => by rw [z, hg1] at hk; cases hk
    have S0 : Same H (upd (upd H l (.lst xs)) g (.lst [])) := (Same.new hl0).trans (Same.new hg0)
    refine ⟨_, _, rfl, _, rfl, q, xs, rfl, (hS.imp S0.seq (Same.seqT S0)), (xs.length : Int), rfl, by omega, by omega, ?_⟩
    refine for_range (lo := 0) (n := ((xs.length : Int)).toNat) (fun i σ H' => ∃ (v : Option V) (L G : List V), σ = [some (.ref p), some (.ref q), some (.ref l), some (.ref g), v] ∧ H' l = some (.lst L) ∧ H' g = some (.lst G) ∧ (G ++ L).Perm xs ∧ G.length = i ∧ Kp H H' ∧ Pen H' p c (b + (xs.length - i)))
      ⟨none, xs, [], rfl, by rw [upd_ne (Ne.symm hgl)]; exact upd_same, upd_same, .refl _, rfl, .of_same S0, by rw [Nat.sub_zero]; exact hP.same S0⟩ ?_ ?_
    · rintro i σ H1 hi ⟨v, L, G, rfl, eL, eG, pm, hG, kp, P1⟩
      have hlen : L.length = xs.length - i := by have := pm.length_eq; rw [List.length_append] at this; omega
      have hi' : i < xs.length := by omega
      obtain ⟨kv1, hk1⟩ := P1.there
      refine ⟨_, rfl, .inl ⟨rfl, _, SqL.of eG⟩, _, rfl, .inl ⟨rfl, _, SqL.of eL⟩, _, rfl, _, rfl, l, L, rfl, .inl (SqL.of eL), p, c, _, b + (xs.length - (i + 1)), rfl, ?_, by omega, by omega, fun n H2 n0 n1 P2 B2 => ?_⟩
      · rw [show b + (xs.length - (i + 1)) + 1 = b + (xs.length - i) by omega]; exact P1
      · obtain ⟨y, hy⟩ := get_of_lt (l := L) n0 n1
        have eL2 := B2.keep hk1 eL (by intro z; cases z)
        have eG2 := B2.keep hk1 eG (by intro z; cases z)
        refine ⟨l, L, n, n.toNat, y, rfl, rfl, eL2, by omega, by omega, PySem.seqIndex_of n0 n1, hy, ?_⟩
        refine ⟨g, G, y, rfl, rfl, by rw [upd_ne hgl]; exact eG2, by rw [hG]; exact Nat.lt_of_lt_of_le (by omega : i < 1000) (by decide), ?_⟩
        refine ⟨_, L.eraseIdx n.toNat, G ++ [y], rfl, by rw [upd_ne (Ne.symm hgl)]; exact upd_same, upd_same, pop_perm hy pm, by rw [List.length_append, hG]; rfl, ((kp.trans (.of_but B2 hk1)).upd hl0).upd hg1, ?_⟩
        exact (P2.upd (hP.off hl0).1 (hP.off hl0).2).upd (hP.off hg1).1 (hP.off hg1).2
    · rintro σ H1 ⟨v, L, G, rfl, eL, eG, pm, hG, kp, P1⟩
      have hlen : L.length = 0 := by have := pm.length_eq; rw [List.length_append] at this; omega
      rw [List.eq_nil_of_length_eq_zero hlen, List.append_nil] at pm
      refine ⟨_, rfl, ?_⟩
      refine k g G H1 pm eG kp ?_
      exact P1.less (by omega)
/-! ### rows of ints -/
theorem map_nodup {r : List Int} : (r.map V.int).Nodup ↔ r.Nodup := by
  induction r with
  | nil => simp
  | cons a r ih =>
    rw [List.map_cons, List.nodup_cons, List.nodup_cons, ih]
    refine and_congr (not_congr ⟨fun h => ?_, fun h => List.mem_map.mpr ⟨a, h, rfl⟩⟩) Iff.rfl
    obtain ⟨b, hb, e⟩ := List.mem_map.mp h
    cases e
    exact hb
theorem rgV_mem {n : Nat} {v : V} (h : v ∈ rgV 0 (n : Int)) : ∃ z : Int, v = .int z ∧ 0 ≤ z ∧ z < n := by
  obtain ⟨i, hi, rfl⟩ := List.mem_map.mp h
  rw [List.mem_range] at hi
  exact ⟨_, rfl, by omega, by omega⟩
theorem rgV_nodup (n : Nat) : (rgV 0 (n : Int)).Nodup := by
  have e : rgV 0 (n : Int) = ((List.range n).map fun i : Nat => (0 : Int) + (i : Nat)).map V.int := by
    unfold rgV
    rw [List.map_map, show ((n : Int) - 0).toNat = n by omega]
    rfl
  rw [e, map_nodup]
  refine List.Pairwise.map _ (fun a b (h : a ≠ b) => ?_) List.nodup_range
  intro z
  exact h (by omega)
theorem ints_of {l : List V} (h : ∀ v ∈ l, ∃ z : Int, v = .int z) : ∃ r : List Int, l = r.map V.int := by
  induction l with
  | nil => exact ⟨[], rfl⟩
  | cons a l ih =>
    obtain ⟨z, rfl⟩ := h a List.mem_cons_self
    obtain ⟨r, rfl⟩ := ih fun v hv => h v (List.mem_cons_of_mem _ hv)
    exact ⟨z :: r, rfl⟩
theorem ring_of {n : Nat} {G L : List V} (p : (G ++ L).Perm (rgV 0 (n : Int))) : ∃ r : List Int, G = r.map V.int ∧ r.Nodup ∧ ∀ x ∈ r, 0 ≤ x ∧ x < n := by
  have m : ∀ v ∈ G, ∃ z : Int, v = .int z ∧ 0 ≤ z ∧ z < n := fun v hv => rgV_mem (p.mem_iff.mp (List.mem_append.mpr (.inl hv)))
  obtain ⟨r, rfl⟩ := ints_of fun v hv => (m v hv).imp fun z h => h.1
  refine ⟨r, rfl, map_nodup.mp (List.nodup_append.mp ((p.nodup_iff).mpr (rgV_nodup n))).1, fun x hx => ?_⟩
  obtain ⟨z, e, h⟩ := m _ (List.mem_map.mpr ⟨x, hx, rfl⟩)
  cases e
  exact h
theorem scRing : FnScope ["_law_pen_here", "_law_places", "_law_left", "_law_ring", "_law_lap"] ["_law_pen_here", "_law_places"] (defScope sRing) := ⟨rfl, rfl, rfl, by decide +kernel, rfl, by decide +kernel, by decide +kernel⟩
theorem ok_ring {f : Addr} {fd fdD : FuncData} (F : Fun K "_law_drawn_ring" "_law_drawn_ring" sRing f fd) (T : TG K mg fDraw) (FD : Fun K "_law_draw" "_law_draw" sDraw fDraw fdD) (bD : Binds K fdD ["_law_pen_here", "_law_many"] []) :
    FnOk P w K mg base CX0 2 f fd ["_law_pen_here", "_law_places"] (spRing K) := by
  have GD : FnOk P w K mg base CX0 1 fDraw fdD ["_law_pen_here", "_law_many"] spDraw := ok_draw FD T.p
  refine F.ok scRing (fun vs H Q E h => ?_) (fun cdv A outer s H vs Q E hr h => ?_)
  · obtain ⟨p, c, n, b, rfl, _⟩ := h
    rfl
  · obtain ⟨p, c, n, b, rfl, hP, n3, n100, k⟩ := h
    refine ⟨_, pss_cons (ps_par (i := 2) (j := 3) rfl scRing.nd rfl rfl (by decide) rfl rfl (pa_cons (pe_listRg rfl (by rfl) T.p.list (prg_1 (by rfl) T.range (pv 1))) (pa_cons (pe_lst pa_nil) pa_nil)) (by rfl))
      (pss_cons (ps_for PassesOwn.never rfl (pi_range1 (by rfl) T.range (pa_cons (pe_op op_add pe_int (pe_call GD hr (by rfl) T.p.gDraw FD.kp bD .nil pass0 (pa_cons (pv 0) (pa_cons (pe_op op_sub (pv 1) pe_int) pa_nil)))) pa_nil)) (pg_name (i := 4) scRing.nd rfl (Or.inl rfl))
        (pss_one (ps_expr (pe_bm PySem.F.plainAttrs_list PySem.F.slot_list_append PySem.F.type_list_append mt_append (pv 3) (pa_cons
          (pe_bm PySem.F.plainAttrs_list PySem.F.slot_list_pop PySem.F.type_list_pop mt_popAt (pv 2) (pa_cons
            (pe_call GD hr (by rfl) T.p.gDraw FD.kp bD .nil pass0 (pa_cons (pv 0) (pa_cons (pe_callB call_len_seq (by rfl) T.p.len PySem.boot_len (pa_cons (pv 2) pa_nil)) pa_nil))) pa_nil)) pa_nil)))))
      (pss_one (ps_ret (pe_callTy call_tuple_of (by rfl) T.tuple (by decide +kernel) (pa_cons (pv 3) pa_nil))))), ?_⟩
    refine ⟨_, rfl, _, rfl, RgOk.of_le (by decide) (by omega) (by decide) (by omega), fun l hl0 => ⟨(by show 0 ≤ sizeLine; decide), fun g hg0 => ?_⟩⟩
    have hgl : g ≠ l := fun z => by rw [z, upd_same] at hg0; cases hg0
    have hg1 : H g = none := by rw [upd_ne hgl] at hg0; exact hg0
    have S0 : Same H (upd (upd H l (.lst (rgV 0 (n : Int)))) g (.lst [])) := (Same.new hl0).trans (Same.new hg0)
    have hxl : (rgV 0 (n : Int)).length = n := by rw [rgV_length]; omega
    have P0 := hP.same S0
    obtain ⟨kv0, hk0⟩ := P0.there
    refine ⟨_, _, rfl, _, rfl, _, rfl, _, _, rfl, rfl, p, c, _, b + n, rfl, P0, by omega, by omega, fun d H1 d0 d1 P1 B1 => ?_⟩
    refine ⟨_, _, rfl, rfl, (3 + d : Int), rfl, by omega, by omega, ?_⟩
    refine for_range (lo := 0) (n := ((3 + d : Int)).toNat) (fun i σ H' => ∃ (v : Option V) (L G : List V), σ = [some (.ref p), some (.int (n : Int)), some (.ref l), some (.ref g), v] ∧ H' l = some (.lst L) ∧ H' g = some (.lst G) ∧ (G ++ L).Perm (rgV 0 (n : Int)) ∧ G.length = i ∧ Kp H H' ∧ Pen H' p c (b + (n - i)))
      ⟨none, rgV 0 (n : Int), [], rfl, B1.keep hk0 (by rw [upd_ne (Ne.symm hgl)]; exact upd_same) (by intro z; cases z), B1.keep hk0 upd_same (by intro z; cases z), .refl _, rfl, (Kp.of_same S0).trans (.of_but B1 hk0), by rw [Nat.sub_zero]; exact P1⟩ ?_ ?_
    · rintro i σ H1 hi ⟨v, L, G, rfl, eL, eG, pm, hG, kp, P1⟩
      have hlen : L.length = n - i := by have := pm.length_eq; rw [List.length_append, hxl] at this; omega
      have hi' : i < n := by omega
      obtain ⟨kv1, hk1⟩ := P1.there
      refine ⟨_, rfl, .inl ⟨rfl, _, SqL.of eG⟩, _, rfl, .inl ⟨rfl, _, SqL.of eL⟩, _, rfl, _, rfl, l, L, rfl, .inl (SqL.of eL), p, c, _, b + (n - (i + 1)), rfl, ?_, by omega, by omega, fun z H2 n0 n1 P2 B2 => ?_⟩
      · rw [show b + (n - (i + 1)) + 1 = b + (n - i) by omega]; exact P1
      · obtain ⟨y, hy⟩ := get_of_lt (l := L) n0 n1
        have eL2 := B2.keep hk1 eL (by intro z; cases z)
        have eG2 := B2.keep hk1 eG (by intro z; cases z)
        refine ⟨l, L, z, z.toNat, y, rfl, rfl, eL2, by omega, by omega, PySem.seqIndex_of n0 n1, hy, ?_⟩
        refine ⟨g, G, y, rfl, rfl, by rw [upd_ne hgl]; exact eG2, by rw [hG]; exact Nat.lt_of_lt_of_le (by omega : i < 1000) (by decide), ?_⟩
        refine ⟨_, L.eraseIdx z.toNat, G ++ [y], rfl, by rw [upd_ne (Ne.symm hgl)]; exact upd_same, upd_same, pop_perm hy pm, by rw [List.length_append, hG]; rfl, ((kp.trans (.of_but B2 hk1)).upd hl0).upd hg1, ?_⟩
        exact (P2.upd (hP.off hl0).1 (hP.off hl0).2).upd (hP.off hg1).1 (hP.off hg1).2
    · rintro σ H1 ⟨v, L, G, rfl, eL, eG, pm, hG, kp, P1⟩
      obtain ⟨r, rfl, rn, rb⟩ := ring_of pm
      rw [List.length_map] at hG
      refine ⟨_, rfl, g, _, rfl, .inl ⟨SqL.of eG, fun t ht => ?_⟩⟩
      exact k t r _ ⟨rn, rb, by omega, by omega⟩ upd_same (kp.trans (.new ht)) ((P1.same (Same.new ht)).less (by omega))
end
end Y
set_option Elab.async false
set_option linter.all false
set_option maxRecDepth 100000
set_option maxHeartbeats 4000000
namespace Y
open PySem L2
/-- a row of n things -/
def StandOk (n : Nat) (st : List Int) : Prop := st.length = n ∧ ∀ x ∈ st, 0 ≤ x ∧ x ≤ (n : Int) + 2
def spStand (K : PySem.W.Frag) : Sp := fun vs H Q _ => ∃ (p c : Addr) (n h b : Nat) (kd : Bool), vs = [.ref p, .int (n : Int), .int (h : Int), .bl kd] ∧ Pen H p c (b + 2 * n) ∧ h ≤ n ∧ n ≤ 100 ∧
  ∀ q st H', StandOk n st → H' q = some (.tup (st.map V.int)) → Kp H H' → Pen H' p c b → Q (.ref q) H'
theorem map_set {l : List Int} {j : Nat} {z : Int} : (l.map V.int).set j (.int z) = (l.set j z).map V.int := (List.map_set).symm
section
variable {P : Program} {w : World} {K : PySem.W.Frag} {mg : Str → Option Value} {base : Heap} {fDraw : Addr}
theorem scStand : FnScope ["_law_pen_here", "_law_places", "_law_holes", "_law_kinds", "_law_left", "_law_stand", "_law_things", "_law_k", "_law_thing"] ["_law_pen_here", "_law_places", "_law_holes", "_law_kinds"] (defScope sStand) := ⟨rfl, rfl, rfl, by decide +kernel, rfl, by decide +kernel, by decide +kernel⟩
theorem ok_stand {f : Addr} {fd fdD : FuncData} (F : Fun K "_law_drawn_stand" "_law_drawn_stand" sStand f fd) (T : TG K mg fDraw) (FD : Fun K "_law_draw" "_law_draw" sDraw fDraw fdD) (bD : Binds K fdD ["_law_pen_here", "_law_many"] []) :
    FnOk P w K mg base CX0 2 f fd ["_law_pen_here", "_law_places", "_law_holes", "_law_kinds"] (spStand K) := by
  have GD : FnOk P w K mg base CX0 1 fDraw fdD ["_law_pen_here", "_law_many"] spDraw := ok_draw FD T.p
  refine F.ok scStand (fun vs H Q E h => ?_) (fun cdv A outer s H vs Q E hr h => ?_)
  · obtain ⟨p, c, n, h, b, kd, rfl, _⟩ := h
    rfl
  · obtain ⟨p, c, n, h, b, kd, rfl, hP, hhn, n100, k⟩ := h
    refine ⟨_, pss_cons (ps_par (i := 4) (j := 5) rfl scStand.nd rfl rfl (by decide) rfl rfl (pa_cons (pe_listRg rfl (by rfl) T.p.list (prg_1 (by rfl) T.range (pv 1))) (pa_cons (pe_op op_rep (pe_lst (pa_cons pe_int pa_nil)) (pv 1)) pa_nil)) (by rfl))
      (pss_cons (ps_set (i := 6) scStand.nd rfl (Or.inl rfl) (pe_lst pa_nil))
      (pss_cons (ps_for PassesOwn.never rfl (pi_range1 (by rfl) T.range (pa_cons (pe_op op_sub (pv 1) (pv 2)) pa_nil)) (pg_name (i := 7) scStand.nd rfl (Or.inl rfl))
        (pss_one (ps_expr (pe_bm PySem.F.plainAttrs_list PySem.F.slot_list_append PySem.F.type_list_append mt_append (pv 6) (pa_cons
          (pe_ifExp (pt_val (pv 3)) (pe_op op_add pe_int (pe_call GD hr (by rfl) T.p.gDraw FD.kp bD .nil pass0 (pa_cons (pv 0) (pa_cons pe_int pa_nil)))) (pe_op op_add (pv 7) pe_int)) pa_nil)))))
      (pss_cons (ps_for PassesOwn.never rfl (pi_list (pv 6)) (pg_name (i := 8) scStand.nd rfl (Or.inl rfl))
        (pss_one (ps_asg (pv 8) (pg_sub (pv 5) (pe_bm PySem.F.plainAttrs_list PySem.F.slot_list_pop PySem.F.type_list_pop mt_popAt (pv 4) (pa_cons
            (pe_call GD hr (by rfl) T.p.gDraw FD.kp bD .nil pass0 (pa_cons (pv 0) (pa_cons (pe_callB call_len_seq (by rfl) T.p.len PySem.boot_len (pa_cons (pv 4) pa_nil)) pa_nil))) pa_nil)) set_list))))
      (pss_one (ps_ret (pe_callTy call_tuple_of (by rfl) T.tuple (by decide +kernel) (pa_cons (pv 5) pa_nil))))))), ?_⟩
    have hxl : (rgV 0 (n : Int)).length = n := by rw [rgV_length]; omega
    refine ⟨_, rfl, _, rfl, RgOk.of_le (by decide) (by omega) (by decide) (by omega), fun l hl0 => ⟨(by show 1 ≤ sizeLine; decide), fun x hx0 => ?_⟩⟩
    refine ⟨_, rfl, x, (n : Int), [.int 0], rfl, rfl, upd_same, by omega, by omega, (by
      show 1 * ((n : Int)).toNat ≤ sizeLine
      have : sizeLine = 16777216 := sizeLine_eq
      omega), fun s hs0 => ?_⟩
    have e0 : (List.replicate ((n : Int)).toNat [V.int 0]).flatten = (List.replicate n (0 : Int)).map V.int := by
      rw [show ((n : Int)).toNat = n by omega, List.map_replicate]
      induction n with
      | zero => rfl
      | succ n ih => 
        clear ih
        exact List.flatten_replicate_singleton
    rw [e0]
    refine ⟨_, _, rfl, ?_⟩
    refine ⟨(by show 0 ≤ sizeLine; decide), fun t ht0 => ?_⟩
    have hx1 : x ≠ l := fun z => by rw [z, upd_same] at hx0; cases hx0
    have hsx : s ≠ x := fun z => by rw [z, upd_same] at hs0; cases hs0
    have hs1 : (upd H l (.lst (rgV 0 (n : Int)))) s = none := by rw [upd_ne hsx] at hs0; exact hs0
    have hsl : s ≠ l := fun z => by rw [z, upd_same] at hs1; cases hs1
    have hs2 : H s = none := by rw [upd_ne hsl] at hs1; exact hs1
    have S0 : Same H (upd (upd (upd (upd H l (.lst (rgV 0 (n : Int)))) x (.lst [.int 0])) s (.lst ((List.replicate n (0 : Int)).map V.int))) t (.lst [])) := (((Same.new hl0).trans (Same.new hx0)).trans (Same.new hs0)).trans (Same.new ht0)
    have ht2 : H t = none := by
      cases e : H t with
      | none => rfl
      | some o => have := (((Same.new hl0).trans (Same.new hx0)).trans (Same.new (o := .lst ((List.replicate n (0 : Int)).map V.int)) hs0)) t o e; rw [ht0] at this; cases this
    have tl : t ≠ l := fun z => by
      have := (Same.new hs0 (o := .lst ((List.replicate n (0 : Int)).map V.int))) l _ ((Same.new hx0 (o := .lst [.int 0])) l _ upd_same)
      rw [z, this] at ht0
      cases ht0
    have ts' : t ≠ s := fun z => by rw [z, upd_same] at ht0; cases ht0
    have eL0 : (upd (upd (upd (upd H l (.lst (rgV 0 (n : Int)))) x (.lst [.int 0])) s (.lst ((List.replicate n (0 : Int)).map V.int))) t (.lst [])) l = some (.lst (rgV 0 (n : Int))) := by
      rw [upd_ne (Ne.symm tl), upd_ne (Ne.symm hsl), upd_ne (Ne.symm hx1)]; exact upd_same
    have eS0 : (upd (upd (upd (upd H l (.lst (rgV 0 (n : Int)))) x (.lst [.int 0])) s (.lst ((List.replicate n (0 : Int)).map V.int))) t (.lst [])) s = some (.lst ((List.replicate n (0 : Int)).map V.int)) := by
      rw [upd_ne (Ne.symm ts')]; exact upd_same
    have lo := hP.off hl0
    have so := hP.off hs2
    have to := hP.off ht2
    -- the things
    refine ⟨_, rfl, _, rfl, _, _, rfl, rfl, ((n : Int) - (h : Int)), rfl, by omega, by omega, ?_⟩
    refine for_range (lo := 0) (n := ((n : Int) - (h : Int)).toNat) (fun i σ H' => ∃ (v : Option V) (ts : List Int), σ = [some (.ref p), some (.int (n : Int)), some (.int (h : Int)), some (.bl kd), some (.ref l), some (.ref s), some (.ref t), v, none] ∧
        H' l = some (.lst (rgV 0 (n : Int))) ∧ H' s = some (.lst ((List.replicate n (0 : Int)).map V.int)) ∧ H' t = some (.lst (ts.map V.int)) ∧ ts.length = i ∧ (∀ x ∈ ts, 0 ≤ x ∧ x ≤ (n : Int) + 2) ∧ Kp H H' ∧ Pen H' p c (b + (2 * n - i)))
      ⟨none, [], rfl, eL0, eS0, upd_same, rfl, (fun x hx => by cases hx), .of_same S0, by rw [Nat.sub_zero]; exact hP.same S0⟩ ?_ ?_
    · rintro i σ H1 hi ⟨v, ts, rfl, eL, eS, eT, hT, bT, kp, P1⟩
      have hi' : i < n := by omega
      obtain ⟨kv1, hk1⟩ := P1.there
      have add : ∀ (z : Int) (H2 : Hp), 0 ≤ z → z ≤ (n : Int) + 2 → H2 l = some (.lst (rgV 0 (n : Int))) → H2 s = some (.lst ((List.replicate n (0 : Int)).map V.int)) → H2 t = some (.lst (ts.map V.int)) → Kp H H2 → Pen H2 p c (b + (2 * n - (i + 1))) →
          ∃ l' xs y, V.ref t = .ref l' ∧ [V.int z] = [y] ∧ H2 l' = some (.lst xs) ∧ xs.length < sizeLine ∧ ∃ (v : Option V) (ts : List Int), [some (.ref p), some (.int (n : Int)), some (.int (h : Int)), some (.bl kd), some (.ref l), some (.ref s), some (.ref t), some (.int (0 + (i : Int))), none] = [some (.ref p), some (.int (n : Int)), some (.int (h : Int)), some (.bl kd), some (.ref l), some (.ref s), some (.ref t), v, none] ∧
            (upd H2 l' (.lst (xs ++ [y]))) l = some (.lst (rgV 0 (n : Int))) ∧ (upd H2 l' (.lst (xs ++ [y]))) s = some (.lst ((List.replicate n (0 : Int)).map V.int)) ∧ (upd H2 l' (.lst (xs ++ [y]))) t = some (.lst (ts.map V.int)) ∧ ts.length = i + 1 ∧ (∀ x ∈ ts, 0 ≤ x ∧ x ≤ (n : Int) + 2) ∧ Kp H (upd H2 l' (.lst (xs ++ [y]))) ∧ Pen (upd H2 l' (.lst (xs ++ [y]))) p c (b + (2 * n - (i + 1))) := fun z H2 z0 z1 eL2 eS2 eT2 kp2 P2 =>
        ⟨t, _, _, rfl, rfl, eT2, by rw [List.length_map, hT]; exact Nat.lt_of_lt_of_le (by omega : i < 1000) (by decide), _, ts ++ [z], rfl, by rw [upd_ne (Ne.symm tl)]; exact eL2, by rw [upd_ne (Ne.symm ts')]; exact eS2, by rw [upd_same, List.map_append]; rfl, by rw [List.length_append, hT]; rfl, (fun x hx => by
          rcases List.mem_append.mp hx with hx | hx
          · exact bT x hx
          · rw [List.mem_singleton.mp hx]; exact ⟨z0, z1⟩), kp2.upd ht2, P2.upd to.1 to.2⟩
      refine ⟨_, rfl, .inl ⟨rfl, _, SqL.of eT⟩, ?_⟩
      refine ⟨_, rfl, kd, rfl, ?_⟩
      refine ifT (fun hkd => ?_) (fun hkd => ?_)
      · refine ⟨_, rfl, p, c, 2, b + (2 * n - (i + 1)), rfl, by rw [show b + (2 * n - (i + 1)) + 1 = b + (2 * n - i) by omega]; exact P1, by decide, by decide, fun z H2 z0 z1 P2 B2 => ?_⟩
        refine ⟨_, _, rfl, rfl, ?_⟩
        exact add (1 + z) H2 (by omega) (by omega) (B2.keep hk1 eL (by intro z; cases z)) (B2.keep hk1 eS (by intro z; cases z)) (B2.keep hk1 eT (by intro z; cases z)) (kp.trans (.of_but B2 hk1)) P2
      · refine ⟨_, rfl, _, _, rfl, rfl, ?_⟩
        exact add (0 + (i : Int) + 1) H1 (by omega) (by omega) eL eS eT kp (P1.less (by omega))
    · rintro σ H1 ⟨v, ts, rfl, eL, eS, eT, hT, bT, kp, P1⟩
      -- each thing has its place
      refine ⟨_, rfl, t, rfl, ⟨_, SqL.of eT⟩, for_list (K := K) (a := t) (xs := ts.map V.int) (fun i σ H' => ∃ (v8 : Option V) (L : List V) (st : List Int), σ = [some (.ref p), some (.int (n : Int)), some (.int (h : Int)), some (.bl kd), some (.ref l), some (.ref s), some (.ref t), v, v8] ∧
        H' l = some (.lst L) ∧ L.length = n - i ∧ (∀ v ∈ L, v ∈ rgV 0 (n : Int)) ∧ H' s = some (.lst (st.map V.int)) ∧ StandOk n st ∧ H' t = some (.lst (ts.map V.int)) ∧ Kp H H' ∧ Pen H' p c (b + (n - i)))
        ⟨none, rgV 0 (n : Int), List.replicate n 0, rfl, eL, by rw [hxl, Nat.sub_zero], (fun v hv => hv), eS, ⟨List.length_replicate, fun x hx => by rw [(List.mem_replicate.mp hx).2]; exact ⟨Int.le_refl 0, by omega⟩⟩, eT, kp, P1.less (by omega)⟩ (fun i σ H2 _ ⟨_, _, _, _, _, _, _, _, _, e, _⟩ => SqL.of e) ?_ ?_⟩
      · rintro i y σ H2 hi ⟨v8, L, st, rfl, eL, hL, mL, eS, ⟨sl, sb⟩, eT, kp, P2⟩
        obtain ⟨y', hy', rfl⟩ := ints_at hi
        have hty : y' ∈ ts := List.mem_of_getElem? hy'
        have hi' : i < ts.length := by
          rcases Nat.lt_or_ge i ts.length with h | h
          · exact h
          · rw [List.getElem?_eq_none h] at hy'; cases hy'
        have hin : i < n := by omega
        obtain ⟨kv1, hk1⟩ := P2.there
        refine ⟨_, rfl, _, rfl, _, rfl, .inl ⟨rfl, _, SqL.of eL⟩, _, rfl, _, rfl, l, L, rfl, .inl (SqL.of eL), p, c, _, b + (n - (i + 1)), rfl, by rw [show b + (n - (i + 1)) + 1 = b + (n - i) by omega]; exact P2, by omega, by omega, fun z H3 z0 z1 P3 B3 => ?_⟩
        obtain ⟨u, hu⟩ := get_of_lt (l := L) z0 z1
        obtain ⟨a, rfl, a0, a1⟩ := rgV_mem (mL u (List.mem_of_getElem? hu))
        refine ⟨l, L, z, z.toNat, _, rfl, rfl, B3.keep hk1 eL (by intro z; cases z), by omega, by omega, PySem.seqIndex_of z0 z1, hu, ?_⟩
        refine ⟨s, _, a, a.toNat, rfl, rfl, by rw [upd_ne hsl]; exact B3.keep hk1 eS (by intro z; cases z), by unfold ixN; rw [if_pos a0, List.length_map, sl, if_pos a1], ?_⟩
        rw [map_set]
        refine ⟨_, L.eraseIdx z.toNat, st.set a.toNat y', rfl, by rw [upd_ne (Ne.symm hsl)]; exact upd_same, by rw [List.length_eraseIdx_of_lt (by omega)]; omega, fun v hv => mL v (List.mem_of_mem_eraseIdx hv), upd_same, ⟨by rw [List.length_set]; exact sl, fun x hx => ?_⟩, ?_, ((kp.trans (.of_but B3 hk1)).upd hl0).upd hs2, (P3.upd lo.1 lo.2).upd so.1 so.2⟩
        · rcases List.mem_or_eq_of_mem_set hx with hx | hx
          · exact sb x hx
          · rw [hx]; exact bT y' hty
        · rw [upd_ne ts', upd_ne tl]; exact B3.keep hk1 eT (by intro z; cases z)
      · rintro σ H2 ⟨v8, L, st, rfl, eL, hL, mL, eS, so', eT, kp, P2⟩
        refine ⟨_, rfl, s, _, rfl, .inl ⟨SqL.of eS, fun q hq => ?_⟩⟩
        exact k q st _ so' upd_same (kp.trans (.new hq)) ((P2.same (Same.new hq)).less (by omega))
end
end Y
set_option Elab.async false
set_option linter.all false
set_option maxRecDepth 100000
set_option maxHeartbeats 4000000
namespace Y
open PySem L2
abbrev sWithout : Stmt := top 47
def spWithout (K : PySem.W.Frag) (hu : Prop) : Sp := fun vs H Q _ => ∃ (d g : Addr) (n : Nat) (kvs : PK) (ks : List (Int × Int)) (t : Int × Int), vs = [.ref d, .ref g] ∧ H d = some (.dT kvs) ∧ SqT K H g [.int t.1, .int t.2] ∧ PairsOk n kvs ks ∧ ks.length ≤ 60 ∧
  ∀ (d' : Addr) (kvs' : PK) (ks' : List (Int × Int)) (H' : Hp), PairsOk n kvs' ks' → ks'.length ≤ ks.length → H' d' = some (.dT kvs') → H d' = none → Same H H' → Q (.ref d') H'
theorem shaped_tie (t : Int × Int) : SeqAt.shaped (tieD t) = true := by
  have e1 : PyData.canLay0 (tieD t) = true := by simp only [tieD, PyData.canLay0, PyData.canLayAll0, Bool.and_self]
  have e2 : decide (PyData.depth (tieD t) ≤ 64) = true := by simp [tieD, PyData.depth, PyData.depthAll]
  unfold SeqAt.shaped
  rw [e1, e2]
  rfl
section
variable {P : Program} {w : World} {K : PySem.W.Frag} {mg : Str → Option Value} {base : Heap} {fDraw : Addr}
theorem scWithout : FnScope ["_law_pairs", "_law_gone", "_law_found", "_law_pair"] ["_law_pairs", "_law_gone"] (defScope sWithout) := ⟨rfl, rfl, rfl, by decide +kernel, rfl, by decide +kernel, by decide +kernel⟩
theorem ok_without {f : Addr} {fd : FuncData} (F : Fun K "_law_without" "_law_without" sWithout f fd) : FnOk P w K mg base CX0 1 f fd ["_law_pairs", "_law_gone"] (spWithout K True) := by
  refine F.ok scWithout (fun vs H Q E h => ?_) (fun cdv A outer s H vs Q E hr h => ?_)
  · obtain ⟨d, g, n, kvs, ks, t, rfl, _⟩ := h
    rfl
  · obtain ⟨d, g, n, kvs, ks, t, rfl, hd, hg, hP, h60, k⟩ := h
    have hu := hu_of hr
    have hu64 := hr.units
    refine ⟨_, pss_cons (ps_set (i := 2) scWithout.nd rfl (Or.inl rfl) pe_dnewT)
      (pss_cons (ps_lock (ps_for PassesOwn.never rfl (pi_keys (pv 0)) (pg_name (i := 3) scWithout.nd rfl (Or.inl rfl))
        (pss_one (ps_if (pt_cmpR (op_neD hu64) (pv 3) (pv 1) (nomark _)) (pss_one (ps_dput hu (pv 2) (pv 3) pe_bl rfl)) pss_nil))))
      (pss_one (ps_ret (pv 2)))), ?_⟩
    intro x hx
    have hdx : d ≠ x := ne_of_none hd hx
    refine ⟨d, .dT kvs, by rw [upd_ne hdx]; exact hd, trivial, fun od => ?_⟩
    refine ⟨_, rfl, d, od, rfl, .inr ⟨kvs, upd_same, ?_⟩⟩
    have S0 : ∀ b u, b ≠ d → H b = some u → (upd (upd H x (.dT [])) d (.frz od (.dT kvs))) b = some u := fun b u nb e => by rw [upd_ne nb, upd_ne (ne_of_none e hx)]; exact e
    refine for_it walk_keysT (fun i σ H' => ∃ (v : Option V) (kvs' : PK) (ks' : List (Int × Int)), σ = [some (.ref d), some (.ref g), some (.ref x), v] ∧ PairsOk n kvs' ks' ∧ ks'.length ≤ i ∧ H' x = some (.dT kvs') ∧ H' d = some (.frz od (.dT kvs)) ∧ ∀ b u, b ≠ d → H b = some u → H' b = some u)
      ⟨none, [], [], rfl, .nil n, Nat.le_refl 0, by rw [upd_ne (Ne.symm hdx)]; exact upd_same, upd_same, S0⟩ (fun i σ H' _ ⟨_, _, _, _, _, _, _, e, _⟩ => e) ?_ ?_
    · rintro i y σ H1 H1' hi ⟨v, kvs', ks', rfl, hP', hl', ex, ed, S1⟩ ⟨rfl, key, val, q, hk, rfl, eq⟩
      have hi' : i < ks.length := by rw [← hP.len]; exact hi
      -- the key is a tie
      have hkey : ∃ u, key = pk u ∧ TieOk n u := by
        have h1 : (kvs.map (·.1))[i]? = some key := by rw [List.getElem?_map, hk]; rfl
        rw [hP.1, List.getElem?_map] at h1
        cases e : ks[i]? with
        | none => rw [e] at h1; cases h1
        | some u => rw [e] at h1; exact ⟨u, (Option.some.inj h1).symm, hP.2.2 u (List.mem_of_getElem? e)⟩
      obtain ⟨u, rfl, hu'⟩ := hkey
      have eq' : H1' q = some (.tup [.int u.1, .int u.2]) := by rw [eq]; rfl
      have hg1 : SqT K H1' g [.int t.1, .int t.2] := by
        rcases hg with (h | ⟨o, h⟩) | h
        · exact .inl (.inl (S1 g _ (ne_of h hd (by intro z; cases z)) h))
        · exact .inl (.inr ⟨o, S1 g _ (ne_of h hd (by intro z; cases z)) h⟩)
        · exact .inr h
      refine ⟨_, rfl, _, rfl, tieD u, tieD t, dp_tie (SqT.of eq'), dp_tie hg1, shaped_tie _, shaped_tie _, _, rfl, ?_⟩
      refine ifT (fun _ => ?_) (fun _ => ?_)
      · obtain ⟨ks2, hP2, hl2, _, _⟩ := hP'.put hu' (.bl true)
        refine ⟨_, rfl, _, rfl, x, _, rfl, DPut.t ex eq (by rw [hP'.len]; exact Nat.lt_of_le_of_lt (by omega : ks'.length ≤ 60) (by decide)), ?_⟩
        refine ⟨_, _, ks2, rfl, hP2, by omega, upd_same, by rw [upd_ne hdx]; exact ed, fun b o nb e => by rw [upd_ne (ne_of_none e hx)]; exact S1 b o nb e⟩
      · exact ⟨_, kvs', ks', rfl, hP', by omega, ex, ed, S1⟩
    · rintro σ H1 ⟨v, kvs', ks', rfl, hP', hl', ex, ed, S1⟩
      refine ⟨ed, _, rfl, ?_⟩
      refine k x kvs' ks' _ hP' (by rw [← hP.len]; exact hl') (by rw [upd_ne (Ne.symm hdx)]; exact ex) hx fun b o e => ?_
      by_cases nb : b = d
      · rw [nb, hd] at e
        rw [nb, upd_same]
        exact e
      · rw [upd_ne nb]
        exact S1 b o nb e
end
end Y
set_option Elab.async false
set_option linter.all false
set_option maxRecDepth 100000
set_option maxHeartbeats 4000000
namespace Y
open PySem L2
abbrev sDYard : Stmt := top 46
abbrev RingAt (K : PySem.W.Frag) (H : Hp) (y : V) (r : List Int) : Prop := TupI K H y r
theorem ring_kp {K : PySem.W.Frag} {H H' : Hp} {y : V} {r : List Int} (h : RingAt K H y r) (s : Kp H H') : RingAt K H' y r := by
  obtain ⟨b, e, h⟩ := h
  exact ⟨b, e, s.seqT h⟩
theorem rings_kp {K : PySem.W.Frag} {H H' : Hp} {ys : List V} {rs : List (List Int)} (h : Paired (RingAt K H) ys rs) (s : Kp H H') : Paired (RingAt K H') ys rs := by
  induction h with
  | nil => exact .nil
  | cons a _ ih => exact .cons (ring_kp a s) ih
theorem rings_snoc {K : PySem.W.Frag} {H : Hp} {ys : List V} {rs : List (List Int)} {y : V} {r : List Int} (h : Paired (RingAt K H) ys rs) (a : RingAt K H y r) : Paired (RingAt K H) (ys ++ [y]) (rs ++ [r]) := by
  induction h with
  | nil => exact .cons a .nil
  | cons b _ ih => exact .cons b ih
theorem rings_map {R R' : V → List Int → Prop} {ys : List V} {rs : List (List Int)} (f : ∀ y r, R y r → R' y r) (h : Paired R ys rs) : Paired R' ys rs := by
  induction h with
  | nil => exact .nil
  | cons a _ ih => exact .cons (f _ _ a) ih
/-- at q: a yard's three parts -/
def YdAt (K : PySem.W.Frag) (H : Hp) (q : Addr) (n : Nat) (ts : List (Int × Int)) (rs : List (List Int)) : Prop := ∃ (a e : Addr) (ys zs : List V), SqT K H q [.int (n : Int), .ref a, .ref e] ∧ SqT K H a ys ∧ Paired (TieAt K H) ys ts ∧ SqT K H e zs ∧ Paired (RingAt K H) zs rs
theorem YdAt.kp {K : PySem.W.Frag} {H H' : Hp} {q : Addr} {n : Nat} {ts : List (Int × Int)} {rs : List (List Int)} (h : YdAt K H q n ts rs) (s : Kp H H') : YdAt K H' q n ts rs := by
  obtain ⟨a, e, ys, zs, h1, h2, h3, h4, h5⟩ := h
  exact ⟨a, e, ys, zs, s.seqT h1, s.seqT h2, ties_kp h3 s, s.seqT h4, rings_kp h5 s⟩
def YdOk (n : Nat) (ts : List (Int × Int)) (rs : List (List Int)) : Prop := 1 ≤ n ∧ n ≤ 12 ∧ TiesOk n ts ∧ ts.length ≤ 60 ∧ (∀ r ∈ rs, RingOk n r) ∧ rs.length ≤ 2
def spDYard (K : PySem.W.Frag) : Sp := fun vs H Q _ => ∃ (p c : Addr) (m b : Nat) (ways rings : Bool), vs = [.ref p, .int (m : Int), .bl ways, .bl rings] ∧ Pen H p c (b + 100) ∧ 2 ≤ m ∧ m ≤ 12 ∧
  ∀ q n ts rs H', YdAt K H' q n ts rs → YdOk n ts rs → n ≤ m → Kp H H' → Pen H' p c b → Q (.ref q) H'
structure TY (K : PySem.W.Frag) (mg : Str → Option Value) (fDraw fPick fWithout fRing : Addr) : Prop where
  g : TG K mg fDraw
  sorted : mg "sorted" = none
  gPick : mg "_law_pick" = some (.ref fPick)
  gWithout : mg "_law_without" = some (.ref fWithout)
  gRing : mg "_law_drawn_ring" = some (.ref fRing)
section
variable {P : Program} {w : World} {K : PySem.W.Frag} {mg : Str → Option Value} {base : Heap} {fDraw fPick fWithout fRing : Addr}
theorem scDYard : FnScope ["_law_pen_here", "_law_most", "_law_ways", "_law_rings", "_law_places", "_law_pairs", "_law_place", "_law_other", "_law_lap", "_law_one", "_law_gone", "_law_told"] ["_law_pen_here", "_law_most", "_law_ways", "_law_rings"] (defScope sDYard) := ⟨rfl, rfl, rfl, by decide +kernel, rfl, by decide +kernel, by decide +kernel⟩
/-- the pairs at d, after what was at H0 -/
structure PSt (H0 H : Hp) (p c d : Addr) (n b m : Nat) : Prop where
  ex : ∃ (kvs : PK) (ks : List (Int × Int)), PairsOk n kvs ks ∧ ks.length ≤ m ∧ ks ≠ [] ∧ H d = some (.dT kvs)
  kp : Kp H0 H
  pen : Pen H p c b
theorem ok_dyard {f : Addr} {fd fdD fdK fdW fdR : FuncData} (F : Fun K "_law_drawn_yard" "_law_drawn_yard" sDYard f fd) (T : TY K mg fDraw fPick fWithout fRing) (FD : Fun K "_law_draw" "_law_draw" sDraw fDraw fdD) (bD : Binds K fdD ["_law_pen_here", "_law_many"] [])
    (FK : Fun K "_law_pick" "_law_pick" sPick fPick fdK) (bK : Binds K fdK ["_law_pen_here", "_law_some"] []) (FW : Fun K "_law_without" "_law_without" sWithout fWithout fdW) (bW : Binds K fdW ["_law_pairs", "_law_gone"] [])
    (FR : Fun K "_law_drawn_ring" "_law_drawn_ring" sRing fRing fdR) (bR : Binds K fdR ["_law_pen_here", "_law_places"] []) :
    FnOk P w K mg base CX0 3 f fd ["_law_pen_here", "_law_most", "_law_ways", "_law_rings"] (spDYard K) := by
  have GD : FnOk P w K mg base CX0 1 fDraw fdD ["_law_pen_here", "_law_many"] spDraw := ok_draw FD T.g.p
  have GK : FnOk P w K mg base CX0 2 fPick fdK ["_law_pen_here", "_law_some"] (spPick K) := ok_pick FK T.g.p FD bD
  have GW : FnOk P w K mg base CX0 1 fWithout fdW ["_law_pairs", "_law_gone"] (spWithout K True) := ok_without FW
  have GR : FnOk P w K mg base CX0 2 fRing fdR ["_law_pen_here", "_law_places"] (spRing K) := ok_ring FR T.g FD bD
  refine F.ok scDYard (fun vs H Q E h => ?_) (fun cdv A outer s H vs Q E hr h => ?_)
  · obtain ⟨p, c, m, b, ways, rings, rfl, _⟩ := h
    rfl
  · obtain ⟨p, c, m, b, ways, rings, rfl, hP, m2, m12, k⟩ := h
    have hu := hu_of hr
    have hr1 : Room 1 _ := hr.mono (by decide)
    refine ⟨_, pss_cons (ps_set (i := 4) scDYard.nd rfl (Or.inl rfl) (pe_op op_add pe_int (pe_call GD hr1 (by rfl) T.g.p.gDraw FD.kp bD .nil pass0 (pa_cons (pv 0) (pa_cons (pe_op op_sub (pv 1) pe_int) pa_nil)))))
      (pss_cons (ps_set (i := 5) scDYard.nd rfl (Or.inl rfl) pe_dnewT)
      (pss_cons (ps_for PassesOwn.never rfl (pi_range2 (by rfl) T.g.range (pa_cons pe_int (pa_cons (pv 4) pa_nil))) (pg_name (i := 6) scDYard.nd rfl (Or.inl rfl))
        (pss_cons (ps_set (i := 7) scDYard.nd rfl (Or.inl rfl) (pe_call GD hr1 (by rfl) T.g.p.gDraw FD.kp bD .nil pass0 (pa_cons (pv 0) (pa_cons (pv 6) pa_nil))))
        (pss_cons (ps_dput hu (pv 5) (pe_tup (pa_cons (pv 7) (pa_cons (pv 6) pa_nil))) pe_bl rfl)
        (pss_one (ps_dput hu (pv 5) (pe_tup (pa_cons (pv 6) (pa_cons (pv 7) pa_nil))) pe_bl rfl)))))
      (pss_cons (ps_for PassesOwn.never rfl (pi_range1 (by rfl) T.g.range (pa_cons (pe_call GD hr1 (by rfl) T.g.p.gDraw FD.kp bD .nil pass0 (pa_cons (pv 0) (pa_cons pe_int pa_nil))) pa_nil)) (pg_name (i := 8) scDYard.nd rfl (Or.inl rfl))
        (pss_cons (ps_par (i := 9) (j := 7) rfl scDYard.nd rfl rfl (by decide) rfl rfl (pa_cons (pe_call GD hr1 (by rfl) T.g.p.gDraw FD.kp bD .nil pass0 (pa_cons (pv 0) (pa_cons (pv 4) pa_nil))) (pa_cons (pe_call GD hr1 (by rfl) T.g.p.gDraw FD.kp bD .nil pass0 (pa_cons (pv 0) (pa_cons (pv 4) pa_nil))) pa_nil)) (by rfl))
        (pss_one (ps_if (pt_cmpR op_ne (pv 9) (pv 7) (nomark _))
          (pss_cons (ps_dput hu (pv 5) (pe_tup (pa_cons (pv 9) (pa_cons (pv 7) pa_nil))) pe_bl rfl)
          (pss_one (ps_if (PW.pt (pw_or (pt_not (pt_val (pv 2))) (pw_or1 (pt_cmpR op_eq (pe_call GD hr1 (by rfl) T.g.p.gDraw FD.kp bD .nil pass0 (pa_cons (pv 0) (pa_cons pe_int pa_nil))) pe_int (nomark _)))))
            (pss_one (ps_dput hu (pv 5) (pe_tup (pa_cons (pv 7) (pa_cons (pv 9) pa_nil))) pe_bl rfl)) pss_nil)))
          pss_nil))))
      (C8.pss_cut (ps_if (PW.pt (pw_and (pt_val (pv 2)) (pw_and1 (pt_cmpR op_eq (pe_call GD hr1 (by rfl) T.g.p.gDraw FD.kp bD .nil pass0 (pa_cons (pv 0) (pa_cons pe_int pa_nil))) pe_int (nomark _)))))
        (pss_cons (ps_set (i := 10) scDYard.nd rfl (Or.inl rfl) (pe_call GK hr (by rfl) T.gPick FK.kp bK .nil pass0 (pa_cons (pv 0) (pa_cons (pe_callB (cr_sortedDT rfl) (by rfl) T.sorted (by decide +kernel) (pa_cons (pv 5) pa_nil)) pa_nil))))
        (pss_one (ps_set (i := 5) scDYard.nd rfl (Or.inl rfl) (pe_call GW hr1 (by rfl) T.gWithout FW.kp bW .nil pass0 (pa_cons (pv 5) (pa_cons (pv 10) pa_nil))))))
        pss_nil)
      (pss_cons (ps_set (i := 11) scDYard.nd rfl (Or.inl rfl) (pe_lst pa_nil))
      (C8.pss_cut (ps_if (PW.pt (pw_and (pt_val (pv 3)) (pw_and1 (pt_cmpR op_ge (pv 4) pe_int (nomark _)))))
        (pss_one (ps_for PassesOwn.never rfl (pi_range1 (by rfl) T.g.range (pa_cons (pe_call GD hr1 (by rfl) T.g.p.gDraw FD.kp bD .nil pass0 (pa_cons (pv 0) (pa_cons pe_int pa_nil))) pa_nil)) (pg_name (i := 8) scDYard.nd rfl (Or.inl rfl))
          (pss_one (ps_expr (pe_bm PySem.F.plainAttrs_list PySem.F.slot_list_append PySem.F.type_list_append mt_append (pv 11) (pa_cons (pe_call GR hr (by rfl) T.gRing FR.kp bR .nil pass0 (pa_cons (pv 0) (pa_cons (pv 4) pa_nil))) pa_nil))))))
        pss_nil)
      (pss_one (ps_ret (pe_tup (pa_cons (pv 4) (pa_cons (pe_callTy call_tuple_of (by rfl) T.g.tuple (by decide +kernel) (pa_cons (pe_callB (cr_sortedDT rfl) (by rfl) T.sorted (by decide +kernel) (pa_cons (pv 5) pa_nil)) pa_nil)) (pa_cons (pe_callTy call_tuple_of (by rfl) T.g.tuple (by decide +kernel) (pa_cons (pv 11) pa_nil)) pa_nil)))))))))))), ?_⟩
    obtain ⟨kv0, hk0⟩ := hP.there
    refine ⟨_, rfl, _, rfl, _, _, rfl, rfl, p, c, _, b + 99, rfl, hP, by omega, by omega, fun z H1 z0 z1 P1 B1 => ?_⟩
    refine ⟨_, _, rfl, rfl, ?_⟩
    obtain ⟨n, hn⟩ : ∃ n : Nat, (2 : Int) + z = (n : Int) := ⟨(2 + z).toNat, by omega⟩
    show gName 4 (V.int ((2 : Int) + z)) _ _ _
    rw [hn]
    have n2 : 2 ≤ n := by omega
    have nm : n ≤ m := by omega
    have kp1 : Kp H H1 := .of_but B1 hk0
    intro d hd
    have dof := P1.off hd
    have put : ∀ (H2 : Hp) (kvs : PK) (ks : List (Int × Int)) (t : Int × Int) (bb mm : Nat), PairsOk n kvs ks → ks.length ≤ mm → mm ≤ 60 → H2 d = some (.dT kvs) → Kp H1 H2 → Pen H2 p c bb → TieOk n t → ∀ t1, H2 t1 = none →
        ∃ kvs', DPut (upd H2 t1 (.tup [.int t.1, .int t.2])) d (.ref t1) (.bl true) (upd (upd H2 t1 (.tup [.int t.1, .int t.2])) d (.dT kvs')) ∧ ∃ ks', PairsOk n kvs' ks' ∧ ks'.length ≤ mm + 1 ∧ ks' ≠ [] ∧ (upd (upd H2 t1 (.tup [.int t.1, .int t.2])) d (.dT kvs')) d = some (.dT kvs') ∧
          Kp H1 (upd (upd H2 t1 (.tup [.int t.1, .int t.2])) d (.dT kvs')) ∧ Pen (upd (upd H2 t1 (.tup [.int t.1, .int t.2])) d (.dT kvs')) p c bb := fun H2 kvs ks t bb mm hp hl hm e kp pn ht t1 n1 => by
      obtain ⟨ks', hp', hl', _, hin⟩ := hp.put ht (.bl true)
      refine ⟨_, DPut.t (k := pk t) ((Same.new n1) _ _ e) upd_same (by rw [hp.len]; exact Nat.lt_of_le_of_lt (by omega : ks.length ≤ 60) (by decide)), ks', hp', by omega, (fun z => by rw [z] at hin; cases hin), upd_same, (kp.trans (.new n1)).upd hd, (pn.same (Same.new n1)).upd dof.1 dof.2⟩
    -- a tree of pairs
    refine ⟨_, rfl, 1, (n : Int), rfl, ⟨by decide, by decide, by omega, by omega⟩, ?_⟩
    refine for_range (lo := 1) (n := ((n : Int) - 1).toNat) (fun i σ H' => ∃ (v6 v7 : Option V) (kvs : PK) (ks : List (Int × Int)), σ = [some (.ref p), some (.int (m : Int)), some (.bl ways), some (.bl rings), some (.int (n : Int)), some (.ref d), v6, v7, none, none, none, none] ∧
        PairsOk n kvs ks ∧ ks.length ≤ 2 * i ∧ (0 < i → ks ≠ []) ∧ H' d = some (.dT kvs) ∧ Kp H1 H' ∧ Pen H' p c (b + 99 - i))
      ⟨none, none, [], [], rfl, .nil n, Nat.le_refl 0, (fun h => absurd h (by decide)), upd_same, .new hd, P1.same (Same.new hd)⟩ ?_ ?_
    · rintro i σ H2 hi ⟨v6, v7, kvs, ks, rfl, hp, hl, _, e, kp, pn⟩
      obtain ⟨kv2, hk2⟩ := pn.there
      refine ⟨_, rfl, _, rfl, p, c, _, b + 99 - (i + 1), rfl, by rw [show b + 99 - (i + 1) + 1 = b + 99 - i by omega]; exact pn, by omega, by omega, fun o H3 o0 o1 p3 B3 => ?_⟩
      refine ⟨_, rfl, _, rfl, _, rfl, (by show 2 ≤ sizeLine; decide), fun t1 n1 => ?_⟩
      obtain ⟨kvs1, dp1, ks1, hp1, hl1, _, e1, kq1, pn1⟩ := put H3 kvs ks (o, 1 + (i : Int)) _ (2 * i) hp hl (by omega) (B3.keep hk2 e (by intro z; cases z)) (kp.trans (.of_but B3 hk2)) p3 ⟨o0, by show o < _; omega, by show 0 ≤ 1 + (i : Int); omega, by show 1 + (i : Int) < _; omega, by show o ≠ 1 + (i : Int); omega⟩ t1 n1
      refine ⟨d, _, rfl, dp1, ?_⟩
      refine ⟨_, rfl, _, rfl, _, rfl, (by show 2 ≤ sizeLine; decide), fun t2 n2' => ?_⟩
      obtain ⟨kvs2, dp2, ks2, hp2, hl2, ne2, e2, kq2, pn2⟩ := put _ kvs1 ks1 (1 + (i : Int), o) _ (2 * i + 1) hp1 hl1 (by omega) e1 kq1 pn1 ⟨by show 0 ≤ 1 + (i : Int); omega, by show 1 + (i : Int) < _; omega, o0, by show o < _; omega, by show 1 + (i : Int) ≠ o; omega⟩ t2 n2'
      refine ⟨d, _, rfl, dp2, ?_⟩
      exact ⟨_, _, kvs2, ks2, rfl, hp2, by omega, fun _ => ne2, e2, kq2, pn2⟩
    · rintro σ H2 ⟨v6, v7, kvs, ks, rfl, hp, hl, hne, e, kp, pn⟩
      obtain ⟨kv2, hk2⟩ := pn.there
      -- a few more
      refine ⟨_, rfl, p, c, 3, b + 80, rfl, pn.less (by omega), by decide, by decide, fun laps H3 l0 l1 p3 B3 => ?_⟩
      refine ⟨laps, rfl, by omega, by omega, ?_⟩
      refine for_range (lo := 0) (n := laps.toNat) (fun i σ H' => ∃ (v7 v8 v9 : Option V) (kvs : PK) (ks : List (Int × Int)), σ = [some (.ref p), some (.int (m : Int)), some (.bl ways), some (.bl rings), some (.int (n : Int)), some (.ref d), v6, v7, v8, v9, none, none] ∧
          PairsOk n kvs ks ∧ ks.length ≤ 24 + 2 * i ∧ ks ≠ [] ∧ H' d = some (.dT kvs) ∧ Kp H1 H' ∧ Pen H' p c (b + 80 - 3 * i))
        ⟨_, _, _, kvs, ks, rfl, hp, by omega, hne (by omega), B3.keep hk2 e (by intro z; cases z), kp.trans (.of_but B3 hk2), p3⟩ ?_ ?_
      · rintro i σ H4 hi ⟨v7, v8, v9, kvs, ks, rfl, hp, hl, hne, e, kp, pn⟩
        obtain ⟨kv4, hk4⟩ := pn.there
        refine ⟨_, rfl, _, rfl, p, c, _, b + 79 - 3 * i, rfl, by rw [show b + 79 - 3 * i + 1 = b + 80 - 3 * i by omega]; exact pn, by omega, by omega, fun x H5 x0 x1 p5 B5 => ?_⟩
        obtain ⟨kv5, hk5⟩ := p5.there
        refine ⟨_, rfl, _, rfl, p, c, _, b + 78 - 3 * i, rfl, by rw [show b + 78 - 3 * i + 1 = b + 79 - 3 * i by omega]; exact p5, by omega, by omega, fun y H6 y0 y1 p6 B6 => ?_⟩
        have e6 := B6.keep hk5 (B5.keep hk4 e (by intro z; cases z)) (by intro z; cases z)
        have kp6 := (kp.trans (.of_but B5 hk4)).trans (.of_but B6 hk5)
        refine ⟨_, _, rfl, ?_⟩
        refine ⟨_, rfl, _, rfl, rfl, _, rfl, ?_⟩
        refine ifT (fun hxy => ?_) (fun _ => ?_)
        · have hxy' : x ≠ y := by intro z; rw [z] at hxy; simp at hxy
          refine ⟨_, rfl, _, rfl, _, rfl, (by show 2 ≤ sizeLine; decide), fun t1 n1 => ?_⟩
          obtain ⟨kvs1, dp1, ks1, hp1, hl1, ne1, e1, kq1, pn1⟩ := put H6 kvs ks (x, y) _ (24 + 2 * i) hp hl (by omega) e6 kp6 p6 ⟨x0, x1, y0, y1, hxy'⟩ t1 n1
          refine ⟨d, _, rfl, dp1, ?_⟩
          refine ⟨_, rfl, ways, rfl, ?_⟩
          have both : ∀ (H7 : Hp) (bb : Nat), H7 d = some (.dT kvs1) → Kp H1 H7 → Pen H7 p c (b + 80 - 3 * (i + 1)) → ∀ t2, H7 t2 = none → _ := fun H7 bb e7 kp7 p7 t2 n2' => put H7 kvs1 ks1 (y, x) (b + 80 - 3 * (i + 1)) (24 + 2 * i + 1) hp1 hl1 (by omega) e7 kp7 p7 ⟨y0, y1, x0, x1, Ne.symm hxy'⟩ t2 n2'
          refine ifT (fun _ => ?_) (fun _ => ?_)
          · refine ⟨_, rfl, _, rfl, _, rfl, (by show 2 ≤ sizeLine; decide), fun t2 n2' => ?_⟩
            obtain ⟨kvs2, dp2, ks2, hp2, hl2, ne2, e2, kq2, pn2⟩ := both _ 0 e1 kq1 (pn1.less (by omega)) t2 n2'
            refine ⟨d, _, rfl, dp2, ?_⟩
            exact ⟨_, _, _, kvs2, ks2, rfl, hp2, by omega, ne2, e2, kq2, pn2⟩
          · obtain ⟨kv7, hk7⟩ := pn1.there
            refine ⟨_, rfl, p, c, 2, b + 77 - 3 * i, rfl, by rw [show b + 77 - 3 * i + 1 = b + 78 - 3 * i by omega]; exact pn1, by decide, by decide, fun u H8 u0 u1 p8 B8 => ?_⟩
            have e8 := B8.keep hk7 e1 (by intro z; cases z)
            have kp8 := kq1.trans (.of_but B8 hk7)
            refine ⟨rfl, _, rfl, ?_⟩
            refine ifT (fun _ => ?_) (fun _ => ?_)
            · refine ⟨_, rfl, _, rfl, _, rfl, (by show 2 ≤ sizeLine; decide), fun t2 n2' => ?_⟩
              obtain ⟨kvs2, dp2, ks2, hp2, hl2, ne2, e2, kq2, pn2⟩ := both H8 0 e8 kp8 (p8.less (by omega)) t2 n2'
              refine ⟨d, _, rfl, dp2, ?_⟩
              exact ⟨_, _, _, kvs2, ks2, rfl, hp2, by omega, ne2, e2, kq2, pn2⟩
            · exact ⟨_, _, _, kvs1, ks1, rfl, hp1, by omega, ne1, e8, kp8, p8.less (by omega)⟩
        · exact ⟨_, _, _, kvs, ks, rfl, hp, by omega, hne, e6, kp6, p6.less (by omega)⟩
      · rintro σ H4 ⟨v7, v8, v9, kvs, ks, rfl, hp, hl, hne, e, kp, pn⟩
        obtain ⟨kv4, hk4⟩ := pn.there
        have keysB : ∀ (kvs : PK) (ks : List (Int × Int)), PairsOk n kvs ks → ∀ kv ∈ kvs, ∃ ns : List Int, kv.1 = ns.map Sum.inl ∧ ns.length = 2 ∧ TS.Bd 64 ns := fun kvs ks hp kv hkv => by
          have h1 : kv.1 ∈ kvs.map (·.1) := List.mem_map.mpr ⟨kv, hkv, rfl⟩
          rw [hp.1] at h1
          obtain ⟨t, ht, e⟩ := List.mem_map.mp h1
          exact ⟨[t.1, t.2], e.symm, rfl, bd_tie (hp.2.2 t ht) (by omega)⟩
        -- one may go
        refine ⟨fun σ' H' => ∃ (d' : Addr) (v7 v8 v9 v10 : Option V) (kvs : PK) (ks : List (Int × Int)), σ' = [some (.ref p), some (.int (m : Int)), some (.bl ways), some (.bl rings), some (.int (n : Int)), some (.ref d'), v6, v7, v8, v9, v10, none] ∧
          PairsOk n kvs ks ∧ ks.length ≤ 40 ∧ H' d' = some (.dT kvs) ∧ Kp H1 H' ∧ Pen H' p c (b + 60), ?_, ?_⟩
        · refine ⟨_, rfl, ways, rfl, ?_⟩
          refine ifT (fun _ => ?_) (fun _ => ?_)
          · refine ⟨_, rfl, p, c, 3, b + 61, rfl, pn.less (by omega), by decide, by decide, fun u H5 u0 u1 p5 B5 => ?_⟩
            have e5 := B5.keep hk4 e (by intro z; cases z)
            have kp5 := kp.trans (.of_but B5 hk4)
            refine ⟨rfl, _, rfl, ?_⟩
            refine ifT (fun _ => ?_) (fun _ => ?_)
            · refine ⟨_, rfl, _, rfl, d, kvs, 2, 64, rfl, .inl e5, by rw [hp.len]; omega, by decide, keysB kvs ks hp, fun bs ys q r pm pw nq => ?_⟩
              obtain ⟨ts, pt, ⟨tn, tok, _⟩, pat⟩ := sorted_ties (K := K) (n := n) (keysP (n := n) r hp.1) hp.2.1 hp.2.2 pm pw
              have tl := ties_len pat
              refine ⟨p, c, q, ys, b + 60, rfl, p5.same (Same.new nq), .inl (SqL.of upd_same), ?_, ?_, fun y i H6 hy p6 B6 => ?_⟩
              · intro z
                rw [z] at tl
                have := pt.length_eq
                exact hne (List.eq_nil_of_length_eq_zero (by rw [← this, ← tl]; rfl))
              · rw [tl, pt.length_eq]; omega
              obtain ⟨t, ht, g, rfl, hg⟩ := ties_get pat hy
              have kq : Kp H5 (upd H5 q (.lst ys)) := .new nq
              obtain ⟨kv5, hk5⟩ := (p5.same (Same.new (o := .lst ys) nq)).there
              have kq6 : Kp H5 H6 := kq.trans (.of_but B6 hk5)
              have e6 : H6 d = some (.dT kvs) := kq6 _ _ e5 (by intro _ z; cases z)
              refine ⟨_, rfl, _, rfl, d, g, n, kvs, ks, t, rfl, e6, kq6.seqT hg, hp, by omega, fun d' kvs' ks' H7 hp' hl' e7 _ s7 => ?_⟩
              exact ⟨d', v7, v8, v9, _, kvs', ks', rfl, hp', by omega, e7, (kp5.trans kq6).trans (.of_same s7), p6.same s7⟩
            · exact ⟨d, v7, v8, v9, none, kvs, ks, rfl, hp, by omega, e5, kp5, p5.less (by omega)⟩
          · exact ⟨d, v7, v8, v9, none, kvs, ks, rfl, hp, by omega, e, kp, pn.less (by omega)⟩
        · rintro σ' Hc ⟨d', v7, v8, v9, v10, kvs, ks, rfl, hp, hl, e, kp, pn⟩
          refine ⟨(by show 0 ≤ sizeLine; decide), fun l nl => ?_⟩
          have lo := pn.off nl
          have ec : (upd Hc l (.lst [])) d' = some (.dT kvs) := Same.new nl _ _ e
          have pnl := pn.same (Same.new (o := .lst []) nl)
          obtain ⟨kvc, hkc⟩ := pnl.there
          refine ⟨fun σ' H' => ∃ (v8 : Option V) (zs : List V) (rs : List (List Int)), σ' = [some (.ref p), some (.int (m : Int)), some (.bl ways), some (.bl rings), some (.int (n : Int)), some (.ref d'), v6, v7, v8, v9, v10, some (.ref l)] ∧
            H' l = some (.lst zs) ∧ Paired (RingAt K H') zs rs ∧ rs.length ≤ 2 ∧ (∀ r ∈ rs, RingOk n r) ∧ Kp Hc H' ∧ Pen H' p c (b + 20), ?_, ?_⟩
          · refine ⟨_, rfl, rings, rfl, ?_⟩
            refine ifT (fun _ => ?_) (fun _ => ?_)
            · refine ⟨_, rfl, _, _, rfl, rfl, _, rfl, ?_⟩
              refine ifT (fun h3 => ?_) (fun _ => ?_)
              · have n3 : (3 : Int) ≤ (n : Int) := of_decide_eq_true h3
                refine ⟨_, rfl, p, c, 3, b + 59, rfl, pnl.less (by omega), by decide, by decide, fun u H5 u0 u1 p5 B5 => ?_⟩
                refine ⟨u, rfl, by omega, by omega, ?_⟩
                refine for_range (lo := 0) (n := u.toNat) (fun i σ H' => ∃ (v8 : Option V) (zs : List V) (rs : List (List Int)), σ = [some (.ref p), some (.int (m : Int)), some (.bl ways), some (.bl rings), some (.int (n : Int)), some (.ref d'), v6, v7, v8, v9, v10, some (.ref l)] ∧
                  H' l = some (.lst zs) ∧ Paired (RingAt K H') zs rs ∧ rs.length = i ∧ (∀ r ∈ rs, RingOk n r) ∧ Kp Hc H' ∧ Pen H' p c (b + 59 - 13 * i))
                  ⟨_, [], [], rfl, B5.keep hkc upd_same (by intro z; cases z), .nil, rfl, (fun r hr => by cases hr), (Kp.new nl).trans (.of_but B5 hkc), p5⟩ ?_ ?_
                · rintro i σ H6 hi ⟨v8, zs, rs, rfl, el, pr, hlen, rok, kp6, p6⟩
                  refine ⟨_, rfl, .inl ⟨rfl, _, SqL.of el⟩, _, rfl, _, rfl, p, c, n, b + 59 - 13 * (i + 1), rfl, p6.less (by omega), by omega, by omega, fun q r H7 rk eq kq p7 => ?_⟩
                  have el7 := kq.lst el
                  refine ⟨l, zs, _, rfl, rfl, el7, by rw [Paired.length pr, hlen]; exact Nat.lt_of_lt_of_le (by omega : i < 1000) (by decide), ?_⟩
                  have K7 : Kp Hc (upd H7 l (.lst (zs ++ [V.ref q]))) := (kp6.trans kq).upd nl
                  have same7 : ∀ {y : V} {r : List Int}, RingAt K H7 y r → RingAt K (upd H7 l (.lst (zs ++ [V.ref q]))) y r := fun h => by
                    obtain ⟨b', e', h'⟩ := h
                    refine ⟨b', e', ?_⟩
                    rcases h' with (h' | ⟨o, h'⟩) | h'
                    · exact .inl (.inl (by rw [upd_ne (ne_of h' el7 (by intro z; cases z))]; exact h'))
                    · exact .inl (.inr ⟨o, by rw [upd_ne (ne_of h' el7 (by intro z; cases z))]; exact h'⟩)
                    · exact .inr h'
                  have pr7 : Paired (RingAt K (upd H7 l (.lst (zs ++ [V.ref q])))) (zs ++ [V.ref q]) (rs ++ [r]) := by
                    refine rings_snoc ?_ (same7 ⟨q, rfl, SqT.of eq⟩)
                    have := rings_kp pr kq
                    clear pr el el7 hlen rok
                    revert same7
                    intro same7
                    exact rings_map (fun y r h => same7 h) this
                  exact ⟨_, _, rs ++ [r], rfl, upd_same, pr7, by rw [List.length_append, hlen]; rfl, fun r' hr' => by
                    rcases List.mem_append.mp hr' with h | h
                    · exact rok r' h
                    · rw [List.mem_singleton.mp h]; exact rk, K7, p7.upd lo.1 lo.2⟩
                · rintro σ H6 ⟨v8, zs, rs, rfl, el, pr, hlen, rok, kp6, p6⟩
                  exact ⟨v8, zs, rs, rfl, el, pr, by omega, rok, kp6, p6.less (by omega)⟩
              · exact ⟨_, [], [], rfl, upd_same, .nil, by decide, (fun r hr => by cases hr), .new nl, pnl.less (by omega)⟩
            · exact ⟨_, [], [], rfl, upd_same, .nil, by decide, (fun r hr => by cases hr), .new nl, pnl.less (by omega)⟩
          · rintro σ' H5 ⟨v8, zs, rs, rfl, el, pr, hrs, rok, kp5, p5⟩
            have e5 : H5 d' = some (.dT kvs) := kp5 _ _ e (by intro _ z; cases z)
            refine ⟨_, rfl, _, rfl, d', kvs, 2, 64, rfl, .inl e5, by rw [hp.len]; omega, by decide, keysB kvs ks hp, fun bs ys q r pm pw nq => ?_⟩
            obtain ⟨ts, pt, tok, pat⟩ := sorted_ties (K := K) (n := n) (keysP (n := n) r hp.1) hp.2.1 hp.2.2 pm pw
            refine ⟨q, ys, rfl, .inl ⟨SqL.of upd_same, fun a na => ?_⟩⟩
            refine ⟨_, rfl, l, zs, rfl, .inl ⟨SqL.of (Same.new na _ _ (Same.new nq _ _ el)), fun e' ne' => ?_⟩⟩
            refine ⟨(by show 3 ≤ sizeLine; decide), fun y ny => ?_⟩
            have S : Same H5 (upd (upd (upd H5 q (.lst ys)) a (.tup ys)) e' (.tup zs)) := ((Same.new nq).trans (Same.new na)).trans (Same.new ne')
            have S' : Same H5 (upd (upd (upd (upd H5 q (.lst ys)) a (.tup ys)) e' (.tup zs)) y (.tup [.int (n : Int), .ref a, .ref e'])) := S.trans (Same.new ny)
            refine k y n ts rs _ ⟨a, e', ys, zs, SqT.of upd_same, SqT.of (Same.new ny _ _ (Same.new ne' _ _ upd_same)), ties_kp pat (.of_same S'), SqT.of (Same.new ny _ _ upd_same), rings_kp pr (.of_same S')⟩ ⟨by omega, by omega, tok, by rw [pt.length_eq]; omega, rok, hrs⟩ nm (((kp1.trans kp).trans kp5).trans (.of_same S')) ((p5.same S').less (by omega))
end
end Y
set_option Elab.async false
set_option linter.all false
set_option maxRecDepth 100000
set_option maxHeartbeats 4000000
namespace Y
open PySem L2
abbrev sSYard : Stmt := top 56
def spSYard (K : PySem.W.Frag) : Sp := fun vs H Q _ => ∃ (p c : Addr) (m b : Nat), vs = [.ref p, .int (m : Int)] ∧ Pen H p c (b + 103) ∧ 2 ≤ m ∧ m ≤ 12 ∧
  ∀ q n ts rs H', YdAt K H' q n ts rs → YdOk n ts rs → n ≤ m → Kp H H' → Pen H' p c b → Q (.ref q) H'
section
variable {P : Program} {w : World} {K : PySem.W.Frag} {mg : Str → Option Value} {base : Heap} {fDraw fDYard : Addr}
theorem scSYard : FnScope ["_law_pen_here", "_law_most"] ["_law_pen_here", "_law_most"] (defScope sSYard) := ⟨rfl, rfl, rfl, by decide +kernel, rfl, by decide +kernel, by decide +kernel⟩
theorem ok_syard {f : Addr} {fd fdD fdY : FuncData} (F : Fun K "_law_some_yard" "_law_some_yard" sSYard f fd) (T : TG K mg fDraw) (gY : mg "_law_drawn_yard" = some (.ref fDYard)) (FD : Fun K "_law_draw" "_law_draw" sDraw fDraw fdD) (bD : Binds K fdD ["_law_pen_here", "_law_many"] [])
    (GY : FnOk P w K mg base CX0 3 fDYard fdY ["_law_pen_here", "_law_most", "_law_ways", "_law_rings"] (spDYard K)) (FY : Fun K "_law_drawn_yard" "_law_drawn_yard" sDYard fDYard fdY) (bY : Binds K fdY ["_law_pen_here", "_law_most", "_law_ways", "_law_rings"] []) :
    FnOk P w K mg base CX0 4 f fd ["_law_pen_here", "_law_most"] (spSYard K) := by
  have GD : FnOk P w K mg base CX0 1 fDraw fdD ["_law_pen_here", "_law_many"] spDraw := ok_draw FD T.p
  refine F.ok scSYard (fun vs H Q E h => ?_) (fun cdv A outer s H vs Q E hr h => ?_)
  · obtain ⟨p, c, m, b, rfl, _⟩ := h
    rfl
  · obtain ⟨p, c, m, b, rfl, hP, m2, m12, k⟩ := h
    have hr1 : Room 1 _ := hr.mono (by decide)
    refine ⟨_, pss_cons (ps_if (pt_cmpR op_eq (pe_call GD hr1 (by rfl) T.p.gDraw FD.kp bD .nil pass0 (pa_cons (pv 0) (pa_cons pe_int pa_nil))) pe_int (nomark _)) (pss_one (ps_ret (pe_tup (pa_cons pe_int (pa_cons (pe_tup pa_nil) (pa_cons (pe_tup pa_nil) pa_nil)))))) pss_nil)
      (pss_one (ps_ret (pe_call GY hr (by rfl) gY FY.kp bY .nil pass0 (pa_cons (pv 0) (pa_cons (pv 1) (pa_cons (pe_cmpR op_eq (pe_call GD hr1 (by rfl) T.p.gDraw FD.kp bD .nil pass0 (pa_cons (pv 0) (pa_cons pe_int pa_nil))) pe_int (nomark _))
        (pa_cons (pe_cmpR op_eq (pe_call GD hr1 (by rfl) T.p.gDraw FD.kp bD .nil pass0 (pa_cons (pv 0) (pa_cons pe_int pa_nil))) pe_int (nomark _)) pa_nil))))))), ?_⟩
    obtain ⟨kv0, hk0⟩ := hP.there
    refine ⟨_, rfl, p, c, 12, b + 102, rfl, hP, by decide, by decide, fun z H1 z0 z1 P1 B1 => ?_⟩
    obtain ⟨kv1, hk1⟩ := P1.there
    refine ⟨rfl, _, rfl, ?_⟩
    refine ifT (fun _ => ?_) (fun _ => ?_)
    · refine ⟨(by show 0 ≤ sizeLine; decide), fun t1 n1 => ⟨(by show 0 ≤ sizeLine; decide), fun t2 n2 => ⟨(by show 3 ≤ sizeLine; decide), fun t3 n3 => ?_⟩⟩⟩
      have S : Same H1 (upd (upd (upd H1 t1 (.tup [])) t2 (.tup [])) t3 (.tup [.int ((1 : Nat) : Int), .ref t1, .ref t2])) := ((Same.new n1).trans (Same.new n2)).trans (Same.new n3)
      refine k t3 1 [] [] _ ⟨t1, t2, [], [], SqT.of upd_same, SqT.of (Same.new n3 _ _ (Same.new n2 _ _ upd_same)), .nil, SqT.of (Same.new n3 _ _ upd_same), .nil⟩ ⟨by decide, by decide, ⟨List.nodup_nil, (fun t h => by cases h), List.Pairwise.nil⟩, by decide, (fun r h => by cases h), by decide⟩ (by omega) ((Kp.of_but B1 hk0).trans (.of_same S)) ((P1.same S).less (by omega))
    · refine ⟨_, rfl, _, rfl, _, rfl, p, c, 2, b + 101, rfl, P1, by decide, by decide, fun u H2 u0 u1 P2 B2 => ?_⟩
      obtain ⟨kv2, hk2⟩ := P2.there
      refine ⟨rfl, _, rfl, p, c, 2, b + 100, rfl, P2, by decide, by decide, fun v H3 v0 v1 P3 B3 => ?_⟩
      refine ⟨rfl, ?_⟩
      refine ⟨p, c, m, b, _, _, rfl, P3, m2, m12, fun q n ts rs H4 y ok nm kp P4 => ?_⟩
      exact k q n ts rs H4 y ok nm ((((Kp.of_but B1 hk0).trans (.of_but B2 hk1)).trans (.of_but B3 hk2)).trans kp) P4
end
end Y
set_option Elab.async false
set_option linter.all false
set_option maxRecDepth 100000
set_option maxHeartbeats 4000000
namespace Y
open PySem L2
abbrev sListed : Stmt := top 54
/-- at y: a row, as a list or a tuple -/
def RowAt (K : PySem.W.Frag) (H : Hp) (y : V) (ns : List Int) : Prop := ∃ b, y = .ref b ∧ (SqL K H b (ns.map V.int) ∨ SqT K H b (ns.map V.int))
theorem RowAt.kp {K : PySem.W.Frag} {H H' : Hp} {y : V} {r : List Int} (h : RowAt K H y r) (s : Kp H H') : RowAt K H' y r := by
  obtain ⟨b, e, h⟩ := h
  exact ⟨b, e, s.seq h⟩
theorem rows_kp {K : PySem.W.Frag} {H H' : Hp} {ys : List V} {rs : List (List Int)} (h : Paired (RowAt K H) ys rs) (s : Kp H H') : Paired (RowAt K H') ys rs := rings_map (fun _ _ h => h.kp s) h
theorem rows_snoc {R : V → List Int → Prop} {ys : List V} {rs : List (List Int)} {y : V} {r : List Int} (h : Paired R ys rs) (a : R y r) : Paired R (ys ++ [y]) (rs ++ [r]) := by
  induction h with
  | nil => exact .cons a .nil
  | cons b _ ih => exact .cons b ih
theorem paired_get {R : V → List Int → Prop} {ys : List V} {rs : List (List Int)} (h : Paired R ys rs) : ∀ {i : Nat} {y : V}, ys[i]? = some y → ∃ r, rs[i]? = some r ∧ R y r := by
  induction h with
  | nil => intro i y e; simp at e
  | cons a _ ih =>
    intro i y e
    cases i with
    | zero => cases Option.some.inj e; exact ⟨_, rfl, a⟩
    | succ i => exact ih e
theorem ty_tup {K : PySem.W.Frag} {H : Hp} {a : Addr} {xs : List V} (h : SqT K H a xs) : TyX K H (.ref a) (.type "tuple") := by
  rcases h with (h | ⟨o, h⟩) | ⟨o, its, n, l, c, _⟩
  · exact .base (.tup h)
  · exact .fTuple h
  · exact .kTuple l c
/-- a row that is not empty stands when the list of rows grows -/
theorem RowAt.grow {K : PySem.W.Frag} {H : Hp} {D : Addr} {zs : List V} {o : HO} {v : V} {r : List Int} (h : RowAt K H v r) (hr : r ≠ []) (e : H D = some (.lst zs)) (hz : ∀ x ∈ zs, ∃ b, x = V.ref b) : RowAt K (upd H D o) v r := by
  obtain ⟨b, e', h⟩ := h
  have nl : ∀ {u : HO}, H b = some u → u ≠ .lst zs → b ≠ D := fun h1 h2 z => h2 (by rw [z, e] at h1; exact (Option.some.inj h1).symm)
  refine ⟨b, e', ?_⟩
  rcases h with ((h | ⟨o, h⟩) | h) | ((h | ⟨o, h⟩) | h)
  · refine .inl (.inl (.inl ?_))
    rw [upd_ne (nl h fun z => ?_)]
    · exact h
    · obtain ⟨a, l, rfl⟩ := List.exists_cons_of_ne_nil hr
      injection z with z
      obtain ⟨b', e2⟩ := hz (.int a) (by rw [← z]; exact List.mem_cons_self)
      cases e2
  · exact .inl (.inl (.inr ⟨o, by rw [upd_ne (nl h (by intro z; cases z))]; exact h⟩))
  · exact .inl (.inr h)
  · exact .inr (.inl (.inl (by rw [upd_ne (nl h (by intro z; cases z))]; exact h)))
  · exact .inr (.inl (.inr ⟨o, by rw [upd_ne (nl h (by intro z; cases z))]; exact h⟩))
  · exact .inr (.inr h)
theorem rows_refs {K : PySem.W.Frag} {H : Hp} {zs : List V} {rs : List (List Int)} (h : Paired (RowAt K H) zs rs) : ∀ x ∈ zs, ∃ b, x = V.ref b := by
  induction h with
  | nil => intro x hx; cases hx
  | cons a _ ih =>
    intro x hx
    rcases List.mem_cons.mp hx with rfl | hx
    · obtain ⟨b, e, _⟩ := a; exact ⟨b, e⟩
    · exact ih x hx
theorem rows_grow {K : PySem.W.Frag} {H : Hp} {D : Addr} {zs xs : List V} {o : HO} {rs : List (List Int)} (h : Paired (RowAt K H) xs rs) (hr : ∀ r ∈ rs, r ≠ []) (e : H D = some (.lst zs)) (hz : ∀ x ∈ zs, ∃ b, x = V.ref b) : Paired (RowAt K (upd H D o)) xs rs := by
  induction h with
  | nil => exact .nil
  | cons a _ ih => exact .cons (a.grow (hr _ List.mem_cons_self) e hz) (ih fun r h => hr r (List.mem_cons_of_mem _ h))
def spL1 (K : PySem.W.Frag) : Sp := fun vs H Q _ => ∃ (p c s : Addr) (ns : List Int) (b : Nat), vs = [.ref p, .ref s] ∧ Pen H p c (b + 1) ∧ SqT K H s (ns.map V.int) ∧ ns.length ≤ 100 ∧
  ∀ q H', RowAt K H' (.ref q) ns → Kp H H' → Pen H' p c b → Q (.ref q) H'
def spL2 (K : PySem.W.Frag) : Sp := fun vs H Q _ => ∃ (p c s : Addr) (ys : List V) (rows : List (List Int)) (b : Nat), vs = [.ref p, .ref s] ∧ Pen H p c (b + (rows.length + 1)) ∧ SqT K H s ys ∧ Paired (TupI K H) ys rows ∧ rows.length ≤ 100 ∧ (∀ r ∈ rows, r.length ≤ 100 ∧ r ≠ []) ∧
  ∀ q zs H', (SqL K H' q zs ∨ SqT K H' q zs) → Paired (RowAt K H') zs rows → Kp H H' → Pen H' p c b → Q (.ref q) H'
structure TLs (K : PySem.W.Frag) (mg : Str → Option Value) (fDraw fL : Addr) : Prop where
  g : TG K mg fDraw
  isi : mg "isinstance" = none
  gL : mg "_law_listed" = some (.ref fL)
section
variable {P : Program} {w : World} {K : PySem.W.Frag} {mg : Str → Option Value} {base : Heap} {fDraw : Addr}
theorem isi_at {X : Cx} {K : PySem.W.Frag} (e : X.K = K) : CallR X (.builtin "isinstance") (rIsi K) := by
  subst e
  exact call_isi
theorem scListed : FnScope ["_law_pen_here", "_law_some", "_law_found", "_law_one"] ["_law_pen_here", "_law_some"] (defScope sListed) := ⟨rfl, rfl, rfl, by decide +kernel, rfl, by decide +kernel, by decide +kernel⟩
theorem ok_l0 {f : Addr} {fd : FuncData} (F : Fun K "_law_listed" "_law_listed" sListed f fd) : FnOk P w K mg base CX0 1 f fd ["_law_pen_here", "_law_some"] (fun _ _ _ _ => False) :=
  F.ok scListed (fun vs H Q E h => h.elim) (fun cdv A outer s H vs Q E hr h => h.elim)
theorem ok_l1 {f : Addr} {fd fdD : FuncData} (F : Fun K "_law_listed" "_law_listed" sListed f fd) (bL : Binds K fd ["_law_pen_here", "_law_some"] []) (T : TLs K mg fDraw f) (FD : Fun K "_law_draw" "_law_draw" sDraw fDraw fdD) (bD : Binds K fdD ["_law_pen_here", "_law_many"] []) :
    FnOk P w K mg base CX0 2 f fd ["_law_pen_here", "_law_some"] (spL1 K) := by
  have GD : FnOk P w K mg base CX0 1 fDraw fdD ["_law_pen_here", "_law_many"] spDraw := ok_draw FD T.g.p
  have GI : FnOk P w K mg base CX0 1 f fd ["_law_pen_here", "_law_some"] (fun _ _ _ _ => False) := ok_l0 F
  refine F.ok scListed (fun vs H Q E h => ?_) (fun cdv A outer s H vs Q E hr h => ?_)
  · obtain ⟨p, c, q, ns, b, rfl, _⟩ := h
    rfl
  · obtain ⟨p, c, q, ns, b, rfl, hP, hS, hl, k⟩ := h
    have hr1 : Room 1 _ := hr
    refine ⟨_, pss_cons (ps_setLc (own := [("_law_one", 3)]) (i := 2) (g := gName 3) (tt := tYes) rfl scListed.nd rfl rfl (sw_true rfl rfl rfl (by decide +kernel)) (pi_tup (pv 1)) (blkOk_by (N := ["_law_pen_here", "_law_some", "_law_found", "_law_one"]) (sc := defScope sListed) (by decide +kernel))
        (fun _ _ _ _ _ => pg_name (i := 3) scListed.nd rfl (Or.inl rfl)) (fun _ _ _ _ _ => pts_nil) (fun _ _ _ _ _ => pe_ifExp (pt_val (pe_callB (isi_at (K := K) rfl) (by rfl) T.isi (by decide +kernel) (pa_cons (pv 3) (pa_cons (pbT (n := "tuple") T.g.tuple (by decide +kernel)) pa_nil))))
          (pe_call GI hr (by rfl) T.gL F.kp bL .nil pass0 (pa_cons (pv 0) (pa_cons (pv 3) pa_nil))) (pv 3)))
      (pss_one (ps_ret (pe_ifExp (pt_cmpR op_eq (pe_call GD hr1 (by rfl) T.g.p.gDraw FD.kp bD .nil pass0 (pa_cons (pv 0) (pa_cons pe_int pa_nil))) pe_int (nomark _)) (pv 2) (pe_callTy call_tuple_of (by rfl) T.g.tuple (by decide +kernel) (pa_cons (pv 2) pa_nil))))), ?_⟩
    refine ⟨_, rfl, q, rfl, ⟨_, hS⟩, fun D hD => ?_⟩
    refine lcp_tup (f := fun x => x) (xs := ns.map V.int) hD (by rw [List.length_map]; omega) hS (fun H' s' => Same.seqT s' hS) (fun i x H2 R hx s2 hR => ?_) ?_
    · obtain ⟨z, _, rfl⟩ := ints_at hx
      refine ⟨rfl, _, rfl, _, _, _, _, false, rfl, ClsV.ty _, .base (TyOf.int z), kit_ty (by decide +kernel), _, rfl, ?_⟩
      exact iteF ⟨_, rfl, hR⟩
    · rw [List.map_id']
      obtain ⟨kv0, hk0⟩ := (hP.same (Same.new (o := .lst (ns.map V.int)) hD)).there
      refine ⟨_, rfl, p, c, 2, b, rfl, hP.same (Same.new hD), by decide, by decide, fun z H1 z0 z1 P1 B1 => ?_⟩
      have eD := B1.keep hk0 upd_same (by intro z; cases z)
      have kp1 : Kp H H1 := (Kp.new hD).trans (.of_but B1 hk0)
      refine ⟨rfl, _, rfl, ?_⟩
      refine ifT (fun _ => ?_) (fun _ => ?_)
      · exact ⟨_, rfl, k D H1 ⟨D, rfl, .inl (SqL.of eD)⟩ kp1 P1⟩
      · exact ⟨_, rfl, D, _, rfl, .inl ⟨SqL.of eD, fun t nt => k t _ ⟨t, rfl, .inr (SqT.of upd_same)⟩ (kp1.trans (.new nt)) (P1.same (Same.new nt))⟩⟩
theorem ok_l2 {f : Addr} {fd fdD : FuncData} (F : Fun K "_law_listed" "_law_listed" sListed f fd) (bL : Binds K fd ["_law_pen_here", "_law_some"] []) (T : TLs K mg fDraw f) (FD : Fun K "_law_draw" "_law_draw" sDraw fDraw fdD) (bD : Binds K fdD ["_law_pen_here", "_law_many"] []) :
    FnOk P w K mg base CX0 3 f fd ["_law_pen_here", "_law_some"] (spL2 K) := by
  have GD : FnOk P w K mg base CX0 1 fDraw fdD ["_law_pen_here", "_law_many"] spDraw := ok_draw FD T.g.p
  have GI : FnOk P w K mg base CX0 2 f fd ["_law_pen_here", "_law_some"] (spL1 K) := ok_l1 F bL T FD bD
  refine F.ok scListed (fun vs H Q E h => ?_) (fun cdv A outer s H vs Q E hr h => ?_)
  · obtain ⟨p, c, q, ys, rows, b, rfl, _⟩ := h
    rfl
  · obtain ⟨p, c, q, ys, rows, b, rfl, hP, hS, hp, hl, hrow, k⟩ := h
    have hr1 : Room 1 _ := hr.mono (by decide)
    refine ⟨_, pss_cons (ps_setLc (own := [("_law_one", 3)]) (i := 2) (g := gName 3) (tt := tYes) rfl scListed.nd rfl rfl (sw_true rfl rfl rfl (by decide +kernel)) (pi_tup (pv 1)) (blkOk_by (N := ["_law_pen_here", "_law_some", "_law_found", "_law_one"]) (sc := defScope sListed) (by decide +kernel))
        (fun _ _ _ _ _ => pg_name (i := 3) scListed.nd rfl (Or.inl rfl)) (fun _ _ _ _ _ => pts_nil) (fun _ _ _ _ _ => pe_ifExp (pt_val (pe_callB (isi_at (K := K) rfl) (by rfl) T.isi (by decide +kernel) (pa_cons (pv 3) (pa_cons (pbT (n := "tuple") T.g.tuple (by decide +kernel)) pa_nil))))
          (pe_call GI hr (by rfl) T.gL F.kp bL .nil pass0 (pa_cons (pv 0) (pa_cons (pv 3) pa_nil))) (pv 3)))
      (pss_one (ps_ret (pe_ifExp (pt_cmpR op_eq (pe_call GD hr1 (by rfl) T.g.p.gDraw FD.kp bD .nil pass0 (pa_cons (pv 0) (pa_cons pe_int pa_nil))) pe_int (nomark _)) (pv 2) (pe_callTy call_tuple_of (by rfl) T.g.tuple (by decide +kernel) (pa_cons (pv 2) pa_nil))))), ?_⟩
    have hyl : ys.length = rows.length := Paired.length hp
    refine ⟨_, rfl, q, rfl, ⟨_, hS⟩, fun D hD => ?_⟩
    have Do := hP.off hD
    refine lc_tup (K := K) (a := q) (xs := ys) (fun i H' => ∃ zs, H' D = some (.lst zs) ∧ Paired (RowAt K H') zs (rows.take i) ∧ zs.length = i ∧ Kp H H' ∧ Pen H' p c (b + (rows.length + 1 - i)))
      ⟨[], upd_same, .nil, rfl, .new hD, hP.same (Same.new hD)⟩ (fun i H' _ ⟨_, _, _, _, kp, _⟩ => kp.seqT hS) (fun i x H' hx h => ?_) (fun H' h => ?_)
    · obtain ⟨zs, eD, pz, lz, kp, pn⟩ := h
      obtain ⟨r, er, g, rfl, hg⟩ := paired_get hp hx
      have hi : i < rows.length := by
        rcases Nat.lt_or_ge i rows.length with h | h
        · exact h
        · rw [List.getElem?_eq_none h] at er; cases er
      refine ⟨rfl, _, rfl, _, _, _, _, true, rfl, ClsV.ty _, ty_tup (kp.seqT hg), kit_ty (by decide +kernel), _, rfl, ?_⟩
      refine iteT ?_
      refine ⟨_, rfl, _, rfl, p, c, g, r, b + (rows.length + 1 - (i + 1)), rfl, by rw [show b + (rows.length + 1 - (i + 1)) + 1 = b + (rows.length + 1 - i) by omega]; exact pn, kp.seqT hg, (hrow r (List.mem_of_getElem? er)).1, fun y H1 hy kp1 pn1 => ?_⟩
      have eD1 := kp1.lst eD
      have K1 : Kp H (upd H1 D (.lst (zs ++ [V.ref y]))) := (kp.trans kp1).upd hD
      have rz := rows_refs pz
      have tk : rows.take (i + 1) = rows.take i ++ [r] := take_next er
      refine ⟨zs, eD1, by rw [lz]; exact Nat.lt_of_lt_of_le (by omega : i < 1000) (by decide), zs ++ [V.ref y], upd_same, ?_, by rw [List.length_append, lz]; rfl, K1, pn1.upd Do.1 Do.2⟩
      rw [tk]
      exact rows_snoc (rows_grow (rows_kp pz kp1) (fun r hr => (hrow r (List.mem_of_mem_take hr)).2) eD1 rz) (hy.grow (hrow r (List.mem_of_getElem? er)).2 eD1 rz)
    · obtain ⟨zs, eD, pz, lz, kp, pn⟩ := h
      rw [hyl, List.take_length] at pz
      obtain ⟨kv0, hk0⟩ := pn.there
      refine ⟨_, rfl, p, c, 2, b, rfl, by rw [hyl] at pn; rw [show b + 1 = b + (rows.length + 1 - rows.length) by omega]; exact pn, by decide, by decide, fun z H1 z0 z1 P1 B1 => ?_⟩
      have eD1 := B1.keep hk0 eD (by intro z; cases z)
      have kB : Kp H' H1 := .of_but B1 hk0
      refine ⟨rfl, _, rfl, ?_⟩
      refine ifT (fun _ => ?_) (fun _ => ?_)
      · exact ⟨_, rfl, k D zs H1 (.inl (SqL.of eD1)) (rows_kp pz kB) (kp.trans kB) P1⟩
      · exact ⟨_, rfl, D, _, rfl, .inl ⟨SqL.of eD1, fun t nt => k t zs _ (.inr (SqT.of upd_same)) (rows_kp pz (kB.trans (.new nt))) ((kp.trans kB).trans (.new nt)) (P1.same (Same.new nt))⟩⟩
end
end Y
set_option Elab.async false
set_option linter.all false
set_option maxRecDepth 100000
set_option maxHeartbeats 4000000
namespace Y
open PySem L2
abbrev sMoves : Stmt := top 999
abbrev sAll : Stmt := top 999
inductive Mv where
  | slide (a b : Int)
  | turn (k : Int)
deriving DecidableEq
def Mv.vs : Mv → List V
  | .slide a b => [.str "slide", .int a, .int b]
  | .turn k => [.str "turn", .int k]
def MvAt (K : PySem.W.Frag) (H : Hp) (y : V) (m : Mv) : Prop := ∃ b, y = .ref b ∧ SqT K H b m.vs
theorem MvAt.kp {K : PySem.W.Frag} {H H' : Hp} {y : V} {m : Mv} (h : MvAt K H y m) (s : Kp H H') : MvAt K H' y m := by
  obtain ⟨b, e, h⟩ := h
  exact ⟨b, e, s.seqT h⟩
theorem par_map {α β : Type} {R R' : α → β → Prop} {ys : List α} {rs : List β} (f : ∀ y r, R y r → R' y r) (h : Paired R ys rs) : Paired R' ys rs := by
  induction h with
  | nil => exact .nil
  | cons a _ ih => exact .cons (f _ _ a) ih
theorem par_snoc {α β : Type} {R : α → β → Prop} {ys : List α} {rs : List β} {y : α} {r : β} (h : Paired R ys rs) (a : R y r) : Paired R (ys ++ [y]) (rs ++ [r]) := by
  induction h with
  | nil => exact .cons a .nil
  | cons b _ ih => exact .cons b ih
theorem par_app {α β : Type} {R : α → β → Prop} {ys zs : List α} {rs ss : List β} (h : Paired R ys rs) (g : Paired R zs ss) : Paired R (ys ++ zs) (rs ++ ss) := by
  induction h with
  | nil => exact g
  | cons b _ ih => exact .cons b ih
theorem par_get {α β : Type} {R : α → β → Prop} {ys : List α} {rs : List β} (h : Paired R ys rs) : ∀ {i : Nat} {y : α}, ys[i]? = some y → ∃ r, rs[i]? = some r ∧ R y r := by
  induction h with
  | nil => intro i y e; simp at e
  | cons a _ ih =>
    intro i y e
    cases i with
    | zero => cases Option.some.inj e; exact ⟨_, rfl, a⟩
    | succ i => exact ih e
theorem seqT_off {K : PySem.W.Frag} {H : Hp} {D b : Addr} {zs xs : List V} {o : HO} (h : SqT K H b xs) (e : H D = some (.lst zs)) : SqT K (upd H D o) b xs := by
  rcases h with (h | ⟨u, h⟩) | h
  · exact .inl (.inl (by rw [upd_ne (ne_of h e (by intro z; cases z))]; exact h))
  · exact .inl (.inr ⟨u, by rw [upd_ne (ne_of h e (by intro z; cases z))]; exact h⟩)
  · exact .inr h
theorem MvAt.off {K : PySem.W.Frag} {H : Hp} {D : Addr} {zs : List V} {y : V} {m : Mv} {o : HO} (h : MvAt K H y m) (e : H D = some (.lst zs)) : MvAt K (upd H D o) y m := by
  obtain ⟨b, e', h⟩ := h
  exact ⟨b, e', seqT_off h e⟩
abbrev MvsAt (K : PySem.W.Frag) (H : Hp) (ys : List V) (ms : List Mv) : Prop := Paired (MvAt K H) ys ms
/-! ### which moves there are -/
def slideOf (t : Int × Int) : Mv := .slide t.1 t.2
def turns (n : Nat) : List Mv := (List.range n).map fun k => .turn (k : Nat)
def allMoves (ts : List (Int × Int)) (rs : List (List Int)) : List Mv := ts.map slideOf ++ turns rs.length
def gAt (st : List Int) (i : Int) : Int := st.getD i.toNat 0
def canSlide (st : List Int) (t : Int × Int) : Bool := decide (0 < gAt st t.1) && decide (gAt st t.2 = 0)
def movesOf (ts : List (Int × Int)) (rs : List (List Int)) (st : List Int) : List Mv := (ts.filter (canSlide st)).map slideOf ++ turns rs.length
def spAll (K : PySem.W.Frag) : Sp := fun vs H Q _ => ∃ (q : Addr) (n : Nat) (ts : List (Int × Int)) (rs : List (List Int)), vs = [.ref q] ∧ YdAt K H q n ts rs ∧ ts.length ≤ 1000 ∧ rs.length ≤ 1000 ∧
  ∀ l ys H', H' l = some (.lst ys) → MvsAt K H' ys (allMoves ts rs) → Same H H' → Q (.ref l) H'
def spMoves (K : PySem.W.Frag) : Sp := fun vs H Q _ => ∃ (q s : Addr) (n : Nat) (ts : List (Int × Int)) (rs : List (List Int)) (st : List Int), vs = [.ref q, .ref s] ∧ YdAt K H q n ts rs ∧ ts.length ≤ 1000 ∧ rs.length ≤ 1000 ∧ (∀ t ∈ ts, TieOk n t) ∧ SqT K H s (st.map V.int) ∧ st.length = n ∧
  ∀ l ys H', H' l = some (.lst ys) → MvsAt K H' ys (movesOf ts rs st) → Same H H' → Q (.ref l) H'
theorem turns_succ (n : Nat) : turns (n + 1) = turns n ++ [.turn (n : Nat)] := by
  unfold turns
  rw [List.range_succ, List.map_append]
  rfl
section
variable {P : Program} {w : World} {K : PySem.W.Frag} {mg : Str → Option Value} {base : Heap} {fDraw : Addr}
theorem Same.upd_new {H H' : Hp} {a : Addr} {o : HO} (s : Same H H') (h : H a = none) : Same H (upd H' a o) := fun b u e => by rw [upd_ne (ne_of_none e h)]; exact s b u e
theorem pgT {X : Cx} {K : PySem.W.Frag} {es : List Expr} {k : Nat} {t : TGs} {n : Nat} {pos : Pos} (eK : X.K = K) (hc : X.calm = true) (h : PGs X es t) (hn : (assignEach es X.env).length = n) (hst : (assignEach es X.env).findIdx? (·.1) = none) : PG X (.Tuple es k pos) (gTup K n t) := by
  subst eK
  exact pg_tup hc h hn hst
/-- the second half: the turns -/
theorem lc_turns {K : PySem.W.Frag} {n : Nat} {vs : List Nat} {σ : L2.St} {H0 H1 : Hp} {D : Addr} {i : Nat} {Qd : Hp → Prop} (s0 : Same H0 H1) (hn : H1 D = none) (hz : n ≤ 1000) (hk : ∀ (v : V), (wipe σ vs).set i (some v) = (wipe σ vs).set i (some v) → wipe ((wipe σ vs).set i (some v)) vs = wipe σ vs) (hi : ∀ v : V, ((wipe σ vs).set i (some v))[i]? = some (some v))
    (hd : ∀ zs H', H' D = some (.lst zs) → MvsAt K H' zs (turns n) → Same H1 H' → Qd H') :
    ∃ W : Nat → Nat → Hp → Prop, (∃ m, W 0 m (upd H1 D (.lst []))) ∧ ∀ j m H, W j m H →
      ((Itr 0 n).stop j H ∧ Qd H) ∨ ((Itr 0 n).go j H ∧ ∃ Nx : Hp → Prop, (∀ H', Nx H' → ∃ m', m' < m ∧ W (j + 1) m' H') ∧ ∀ x H', (Itr 0 n).yld j H x H' → gName i x (wipe σ vs) H' fun σ2 H2 => wipe σ2 vs = wipe σ vs ∧ tYes σ2 H2 fun b H3 =>
        if b = true then tTup (tCons (tC (.str "turn")) (tCons (tVar i) tNil)) σ2 H3 fun y H4 => ∃ acc, H4 D = some (.lst acc) ∧ acc.length < sizeLine ∧ Nx (upd H4 D (.lst (acc ++ [y]))) else Nx H3) := by
  refine lc_range (lo := 0) (n := n) (fun j H => ∃ zs, H D = some (.lst zs) ∧ MvsAt K H zs (turns j) ∧ zs.length = j ∧ Same H1 H) ⟨[], upd_same, .nil, rfl, Same.new hn⟩ (fun j H hj h => ?_) (fun H h => ?_)
  · obtain ⟨zs, e, p, l, s⟩ := h
    refine ⟨hk _ rfl, ?_⟩
    refine ⟨_, hi _, (by show 2 ≤ sizeLine; decide), fun t nt => ?_⟩
    have e1 : (upd H t (.tup [.str "turn", .int (0 + (j : Int))])) D = some (.lst zs) := Same.new nt _ _ e
    refine ⟨zs, e1, by rw [l]; exact Nat.lt_of_lt_of_le (by omega : j < 1001) (by decide), zs ++ [V.ref t], upd_same, ?_, by rw [List.length_append, l]; rfl, Same.upd_new (s.trans (Same.new nt)) hn⟩
    rw [turns_succ]
    refine par_snoc (par_map (fun y m h => (h.kp (.new nt)).off e1) p) ⟨t, rfl, ?_⟩
    refine seqT_off (SqT.of ?_) e1
    rw [upd_same]
    show some (HO.tup [.str "turn", .int (0 + (j : Int))]) = some (.tup [.str "turn", .int (j : Nat)])
    rw [Int.zero_add]
  · obtain ⟨zs, e, p, _, s⟩ := h
    exact hd zs H e p s
end
end Y
set_option Elab.async false
set_option linter.all false
set_option maxRecDepth 100000
set_option maxHeartbeats 4000000
namespace Y
open PySem L2
theorem ixT_at {X : Cx} {K : PySem.W.Frag} (e : X.K = K) : IxR X (rIxT K) := by
  subst e
  exact ix_tup
theorem atI_st {st : List Int} {i : Int} (h0 : 0 ≤ i) (h1 : i < st.length) : atI (st.map V.int) i = some (.int (gAt st i)) := by
  refine atI_int h0 ?_
  have h : i.toNat < st.length := by omega
  rw [List.getElem?_map, List.getElem?_eq_getElem h]
  unfold gAt
  rw [List.getD_eq_getElem?_getD, List.getElem?_eq_getElem h]
  rfl
theorem filter_snoc {α : Type} (p : α → Bool) (l : List α) (t : α) : (l ++ [t]).filter p = if p t = true then l.filter p ++ [t] else l.filter p := by
  rw [List.filter_append]
  by_cases h : p t = true
  · rw [if_pos h]; simp [h]
  · rw [if_neg h]; simp [h]
section
variable {P : Program} {w : World} {K : PySem.W.Frag} {mg : Str → Option Value} {base : Heap} {fDraw : Addr}
end
end Y
set_option Elab.async false
set_option linter.all false
set_option maxRecDepth 100000
set_option maxHeartbeats 4000000
namespace Y
open PySem L2
/-! ### a row of moves taken back -/
def ringLen (rs : List (List Int)) (k : Int) : Nat := (rs.getD k.toNat []).length
def backOne (ts : List (Int × Int)) (rs : List (List Int)) : Mv → Option (List Mv)
  | .turn k => some (List.replicate (ringLen rs k - 1) (.turn k))
  | .slide a b => if (b, a) ∈ ts then some [.slide b a] else none
def backs (ts : List (Int × Int)) (rs : List (List Int)) : List Mv → Option (List Mv)
  | [] => some []
  | m :: l => (backOne ts rs m).bind fun x => (backs ts rs l).map (x ++ ·)
theorem backs_app {ts : List (Int × Int)} {rs : List (List Int)} : ∀ (l l2 : List Mv), backs ts rs (l ++ l2) = (backs ts rs l).bind fun x => (backs ts rs l2).map (x ++ ·)
  | [], l2 => by
    show backs ts rs l2 = (some []).bind fun x => (backs ts rs l2).map (x ++ ·)
    cases backs ts rs l2 <;> rfl
  | m :: l, l2 => by
    show (backOne ts rs m).bind (fun x => (backs ts rs (l ++ l2)).map (x ++ ·)) = ((backOne ts rs m).bind fun x => (backs ts rs l).map (x ++ ·)).bind fun x => (backs ts rs l2).map (x ++ ·)
    rw [backs_app l l2]
    cases backOne ts rs m with
    | none => rfl
    | some x =>
      cases backs ts rs l with
      | none => rfl
      | some y =>
        cases backs ts rs l2 with
        | none => rfl
        | some z => show some (x ++ (y ++ z)) = some (x ++ y ++ z); rw [List.append_assoc]
theorem backs_snoc {ts : List (Int × Int)} {rs : List (List Int)} {l : List Mv} {m : Mv} {x : List Mv} (h : backs ts rs l = some x) : backs ts rs (l ++ [m]) = (backOne ts rs m).map (x ++ ·) := by
  rw [backs_app, h]
  show ((backOne ts rs m).bind fun y => (some []).map (y ++ ·)).map (x ++ ·) = _
  cases backOne ts rs m with
  | none => rfl
  | some y => show some (x ++ (y ++ [])) = some (x ++ y); rw [List.append_nil]
theorem backs_fail {ts : List (Int × Int)} {rs : List (List Int)} {l l2 : List Mv} {m : Mv} (h : backOne ts rs m = none) : backs ts rs (l ++ m :: l2) = none := by
  rw [backs_app]
  show (backs ts rs l).bind (fun x => ((backOne ts rs m).bind fun y => (backs ts rs l2).map (y ++ ·)).map (x ++ ·)) = none
  rw [h]
  cases backs ts rs l <;> rfl
/-- a move of this yard's kind: a turn names one of its rings -/
def MvOk (rs : List (List Int)) : Mv → Prop
  | .turn k => 0 ≤ k ∧ k < rs.length
  | .slide _ _ => True
/-- what taking back tells: None, or a tuple of moves -/
def TkAt (K : PySem.W.Frag) (H : Hp) (v : V) : Option (List Mv) → Prop
  | none => v = .non
  | some bs => ∃ t ws, v = .ref t ∧ SqT K H t ws ∧ MvsAt K H ws bs
theorem TkAt.kp {K : PySem.W.Frag} {H H' : Hp} {v : V} {o : Option (List Mv)} (h : TkAt K H v o) (s : Kp H H') : TkAt K H' v o := by
  cases o with
  | none => exact h
  | some bs => obtain ⟨t, ws, e, h1, h2⟩ := h; exact ⟨t, ws, e, s.seqT h1, par_map (fun y m h => h.kp s) h2⟩
def spBack (K : PySem.W.Frag) : Sp := fun vs H Q _ => ∃ (q l : Addr) (n : Nat) (ts : List (Int × Int)) (rs : List (List Int)) (ys : List V) (ms : List Mv), vs = [.ref q, .ref l] ∧ YdAt K H q n ts rs ∧ (∀ r ∈ rs, r.length ≤ 100 ∧ 1 ≤ r.length) ∧ SqL K H l ys ∧ MvsAt K H ys ms ∧ ms.length ≤ 100 ∧ (∀ m ∈ ms, MvOk rs m) ∧
  ∀ v H', TkAt K H' v (backs ts rs ms.reverse) → Same H H' → Q v H'
theorem par_rev {α β : Type} {R : α → β → Prop} {ys : List α} {rs : List β} (h : Paired R ys rs) : Paired R ys.reverse rs.reverse := by
  induction h with
  | nil => exact .nil
  | cons a _ ih => rw [List.reverse_cons, List.reverse_cons]; exact par_snoc ih a
theorem par_rep {α β : Type} {R : α → β → Prop} {y : α} {r : β} (h : R y r) : ∀ n, Paired R (List.replicate n y) (List.replicate n r)
  | 0 => .nil
  | n + 1 => .cons h (par_rep h n)
theorem rep_flat {α : Type} (x : α) : ∀ n, (List.replicate n [x]).flatten = List.replicate n x
  | 0 => rfl
  | n + 1 => by rw [List.replicate_succ, List.flatten_cons, rep_flat x n]; rfl
theorem ring_at {rs : List (List Int)} {zs : List V} {K : PySem.W.Frag} {H : Hp} {k : Int} (h : Paired (RingAt K H) zs rs) (h0 : 0 ≤ k) (h1 : k < rs.length) : ∃ b r, zs[k.toNat]? = some (.ref b) ∧ rs[k.toNat]? = some r ∧ SqT K H b (r.map V.int) ∧ ringLen rs k = r.length := by
  have hl := Paired.length h
  have hk : k.toNat < zs.length := by omega
  obtain ⟨r, er, b, e, hb⟩ := par_get h (List.getElem?_eq_getElem hk)
  refine ⟨b, r, by rw [List.getElem?_eq_getElem hk, e], er, hb, ?_⟩
  unfold ringLen
  rw [List.getD_eq_getElem?_getD, er]
  rfl
end Y
set_option Elab.async false
set_option linter.all false
set_option maxRecDepth 100000
set_option maxHeartbeats 4000000
namespace Y
open PySem L2
abbrev sMoved : Stmt := top 999
/-! ### what a move does to a stand -/
def turnTo (r st : List Int) (n : Nat) : List Int := (List.range n).foldl (fun acc j => acc.set (r.getD ((j + 1) % r.length) 0).toNat (gAt st (r.getD j 0))) st
def stepMv (rs : List (List Int)) (st : List Int) : Mv → List Int
  | .slide a b => (st.set a.toNat 0).set b.toNat (gAt st a)
  | .turn k => turnTo (rs.getD k.toNat []) st (rs.getD k.toNat []).length
theorem turnTo_succ (r st : List Int) (n : Nat) : turnTo r st (n + 1) = (turnTo r st n).set (r.getD ((n + 1) % r.length) 0).toNat (gAt st (r.getD n 0)) := by
  unfold turnTo
  rw [List.range_succ, List.foldl_append]
  rfl
theorem turnTo_len (r st : List Int) : ∀ n, (turnTo r st n).length = st.length
  | 0 => rfl
  | n + 1 => by rw [turnTo_succ, List.length_set, turnTo_len r st n]
theorem stepMv_len (rs : List (List Int)) (st : List Int) (m : Mv) : (stepMv rs st m).length = st.length := by
  cases m with
  | slide a b => show ((st.set a.toNat 0).set b.toNat (gAt st a)).length = _; rw [List.length_set, List.length_set]
  | turn k => exact turnTo_len _ _ _
/-- the move can be made -/
def CanMv (n : Nat) (ts : List (Int × Int)) (rs : List (List Int)) (st : List Int) : Mv → Prop
  | .slide a b => (a, b) ∈ ts ∧ TieOk n (a, b) ∧ 0 < gAt st a ∧ gAt st b = 0
  | .turn k => 0 ≤ k ∧ k < rs.length
def spMoved (K : PySem.W.Frag) : Sp := fun vs H Q _ => ∃ (q s : Addr) (y : V) (n : Nat) (ts : List (Int × Int)) (rs : List (List Int)) (st : List Int) (m : Mv), vs = [.ref q, .ref s, y] ∧ YdAt K H q n ts rs ∧ n ≤ 100 ∧ (∀ r ∈ rs, RingOk n r) ∧ SqT K H s (st.map V.int) ∧ st.length = n ∧ MvAt K H y m ∧ CanMv n ts rs st m ∧
  ∀ t H', H' t = some (.tup ((stepMv rs st m).map V.int)) → Same H H' → Q (.ref t) H'
theorem ixN_ok {n : Nat} {i : Int} (h0 : 0 ≤ i) (h1 : i < n) : ixN n i = some i.toNat := by
  unfold ixN
  rw [if_pos h0, if_pos h1]
theorem getD_at {r : List Int} {i : Nat} (h : i < r.length) : (r.map V.int)[i]? = some (.int (r.getD i 0)) := by
  rw [List.getElem?_map, List.getElem?_eq_getElem h, List.getD_eq_getElem?_getD, List.getElem?_eq_getElem h]
  rfl
theorem getD_mem {r : List Int} {i : Nat} (h : i < r.length) : r.getD i 0 ∈ r := by
  rw [List.getD_eq_getElem?_getD, List.getElem?_eq_getElem h]
  exact List.getElem_mem h
section
variable {P : Program} {w : World} {K : PySem.W.Frag} {mg : Str → Option Value} {base : Heap} {fDraw : Addr}
end
end Y
set_option Elab.async false
set_option linter.all false
set_option maxRecDepth 100000
set_option maxHeartbeats 4000000
namespace Y
open PySem L2
abbrev sSMoves : Stmt := top 999
/-! ### xs == [] -/
def rEqNil (K : PySem.W.Frag) : R2 := fun x y H Q => ∃ p q xs, x = .ref p ∧ y = .ref q ∧ SqL K H p xs ∧ SqL K H q [] ∧ Q (.bl xs.isEmpty) H
theorem op_eq_nil {X : Cx} (hu : X.A.units < cLine) : OpR X (compareOp .Eq) (rEqNil X.K) := by
  intro pins s σ H x y v u Q I rx ry h
  obtain ⟨p, q, xs, rfl, rfl, hp, hq, k⟩ := h
  cases rx
  cases ry
  obtain ⟨its, r1, l1, _⟩ := I.list hp
  obtain ⟨jts, r2, l2, _⟩ := I.list hq
  cases r2
  cases r1 with
  | nil =>
    refine SeqAt.eq_listAt (e := fun _ => true) l1.isList l2.isList rfl hu (fun j h1 _ => absurd h1 (by simp)) ?_
    exact ⟨.bl true, H, I, rfl, k⟩
  | cons a t =>
    refine SeqAt.eq_list_lengthsAt l1.isList l2.isList (by simp) hu ?_
    exact ⟨.bl false, H, I, rfl, k⟩
/-! ### a row of moves that can be made -/
def playMvs (rs : List (List Int)) : List Int → List Mv → List Int
  | st, [] => st
  | st, m :: l => playMvs rs (stepMv rs st m) l
def CanAll (n : Nat) (ts : List (Int × Int)) (rs : List (List Int)) : List Int → List Mv → Prop
  | _, [] => True
  | st, m :: l => CanMv n ts rs st m ∧ CanAll n ts rs (stepMv rs st m) l
theorem play_snoc {rs : List (List Int)} {m : Mv} : ∀ {l : List Mv} {st : List Int}, playMvs rs st (l ++ [m]) = stepMv rs (playMvs rs st l) m
  | [], _ => rfl
  | a :: l, st => play_snoc (l := l) (st := stepMv rs st a)
theorem can_snoc {n : Nat} {ts : List (Int × Int)} {rs : List (List Int)} {m : Mv} : ∀ {l : List Mv} {st : List Int}, CanAll n ts rs st l → CanMv n ts rs (playMvs rs st l) m → CanAll n ts rs st (l ++ [m])
  | [], _, _, h => ⟨h, trivial⟩
  | _ :: _, _, h, g => ⟨h.1, can_snoc h.2 g⟩
theorem play_len {rs : List (List Int)} : ∀ {l : List Mv} {st : List Int}, (playMvs rs st l).length = st.length
  | [], _ => rfl
  | m :: l, st => by show (playMvs rs (stepMv rs st m) l).length = _; rw [play_len, stepMv_len]
theorem can_of_mem {n : Nat} {ts : List (Int × Int)} {rs : List (List Int)} {st : List Int} {m : Mv} (tok : ∀ t ∈ ts, TieOk n t) (h : m ∈ movesOf ts rs st) : CanMv n ts rs st m := by
  unfold movesOf at h
  rcases List.mem_append.mp h with h | h
  · obtain ⟨t, ht, rfl⟩ := List.mem_map.mp h
    obtain ⟨h1, h2⟩ := List.mem_filter.mp ht
    unfold canSlide at h2
    rw [Bool.and_eq_true, decide_eq_true_iff, decide_eq_true_iff] at h2
    exact ⟨h1, tok t h1, h2.1, h2.2⟩
  · unfold turns at h
    obtain ⟨k, hk, rfl⟩ := List.mem_map.mp h
    rw [List.mem_range] at hk
    exact ⟨by omega, by omega⟩
def spSMoves (K : PySem.W.Frag) : Sp := fun vs H Q _ => ∃ (p c q s : Addr) (n b mo : Nat) (ts : List (Int × Int)) (rs : List (List Int)) (st : List Int), vs = [.ref p, .ref q, .ref s, .int (mo : Int)] ∧ Pen H p c (b + mo + 1) ∧ mo ≤ 100 ∧ YdAt K H q n ts rs ∧ YdOk n ts rs ∧ SqT K H s (st.map V.int) ∧ st.length = n ∧
  ∀ l ys ms H', H' l = some (.lst ys) → MvsAt K H' ys ms → ms.length ≤ mo → CanAll n ts rs st ms → Kp H H' → Pen H' p c b → Q (.ref l) H'
structure TM (K : PySem.W.Frag) (mg : Str → Option Value) (fDraw fPick fMoves fMoved : Addr) : Prop where
  g : TG K mg fDraw
  gPick : mg "_law_pick" = some (.ref fPick)
  gMoves : mg "_law_moves" = some (.ref fMoves)
  gMoved : mg "_law_moved" = some (.ref fMoved)
section
variable {P : Program} {w : World} {K : PySem.W.Frag} {mg : Str → Option Value} {base : Heap} {fDraw fPick fMoves fMoved : Addr}
end
end Y
set_option Elab.async false
set_option linter.all false
set_option maxRecDepth 100000
set_option maxHeartbeats 4000000
namespace Y
open PySem L2
abbrev sIsInt : Stmt := top 1
abbrev sIsRow : Stmt := top 3
abbrev sCan : Stmt := top 21
structure TI0 (mg : Str → Option Value) : Prop where
  isi : mg "isinstance" = none
  int : mg "int" = none
  bool : mg "bool" = none
  tuple : mg "tuple" = none
  list : mg "list" = none
def spIsInt : Sp := fun vs H Q _ => ∃ z : Int, vs = [.int z] ∧ Q (.bl true) H
def spIsRow (K : PySem.W.Frag) : Sp := fun vs H Q _ => ∃ x : V, vs = [x] ∧ (TyX K H x (.type "list") ∨ TyX K H x (.type "tuple")) ∧ ∀ H', Same H H' → Q (.bl true) H'
theorem TyX.same {K : PySem.W.Frag} {H H' : Hp} {a : Addr} {xs : List V} (h : SqL K H a xs) : TyX K H (.ref a) (.type "list") := by
  rcases h with (h | ⟨o, h⟩) | ⟨o, its, n, l, c, _⟩
  · exact .base (.lst h)
  · exact .base (.frz h)
  · exact .kList l c
section
variable {P : Program} {w : World} {K : PySem.W.Frag} {mg : Str → Option Value} {base : Heap}
theorem scIsInt : FnScope ["value"] ["value"] (defScope sIsInt) := ⟨rfl, rfl, rfl, by decide +kernel, rfl, by decide +kernel, by decide +kernel⟩
theorem ok_isInt {f : Addr} {fd : FuncData} (F : Fun K "is_integer" "is_integer" sIsInt f fd) (T : TI0 mg) : FnOk P w K mg base CX0 1 f fd ["value"] spIsInt := by
  refine F.ok scIsInt (fun vs H Q E h => ?_) (fun cdv A outer s H vs Q E hr h => ?_)
  · obtain ⟨z, rfl, _⟩ := h
    rfl
  · obtain ⟨z, rfl, k⟩ := h
    refine ⟨_, pss_one (ps_ret (pe_and (pe_callB call_isi (by rfl) T.isi (by decide +kernel) (pa_cons (pv 0) (pa_cons (pbT (n := "int") T.int (by decide +kernel)) pa_nil))) (pe_one (pe_not (pe_callB call_isi (by rfl) T.isi (by decide +kernel) (pa_cons (pv 0) (pa_cons (pbT (n := "bool") T.bool (by decide +kernel)) pa_nil))))))), ?_⟩
    refine ⟨_, rfl, _, _, _, _, true, rfl, ClsV.ty _, .base (TyOf.int z), kit_ty (by decide +kernel), true, rfl, iteT ?_⟩
    exact ⟨_, rfl, _, _, _, _, false, rfl, ClsV.ty _, .base (TyOf.int z), kit_ty (by decide +kernel), false, rfl, k⟩
theorem scIsRow : FnScope ["value"] ["value"] (defScope sIsRow) := ⟨rfl, rfl, rfl, by decide +kernel, rfl, by decide +kernel, by decide +kernel⟩
theorem kit_row {K : PySem.W.Frag} {t : String} (h : t = "list" ∨ t = "tuple") : PySem.W.kitAny K (.type t) [.type "tuple", .type "list"] = some true := by
  rcases h with rfl | rfl
  · have e1 : PySem.W.kitOne K (.type "list") (.type "tuple") = some false := kit_ty (by decide +kernel)
    have e2 : PySem.W.kitOne K (.type "list") (.type "list") = some true := kit_ty (by decide +kernel)
    simp only [PySem.W.kitAny, e1, e2]
  · have e1 : PySem.W.kitOne K (.type "tuple") (.type "tuple") = some true := kit_ty (by decide +kernel)
    simp only [PySem.W.kitAny, e1]
theorem ok_isRow {f : Addr} {fd : FuncData} (F : Fun K "is_row" "is_row" sIsRow f fd) (T : TI0 mg) : FnOk P w K mg base CX0 1 f fd ["value"] (spIsRow K) := by
  refine F.ok scIsRow (fun vs H Q E h => ?_) (fun cdv A outer s H vs Q E hr h => ?_)
  · obtain ⟨x, rfl, _⟩ := h
    rfl
  · obtain ⟨x, rfl, hx, k⟩ := h
    refine ⟨_, pss_one (ps_ret (pe_callB call_isiT (by rfl) T.isi (by decide +kernel) (pa_cons (pv 0) (pa_cons (pe_tup (pa_cons (pbT (n := "tuple") T.tuple (by decide +kernel)) (pa_cons (pbT (n := "list") T.list (by decide +kernel)) pa_nil))) pa_nil)))), ?_⟩
    refine ⟨_, rfl, (by show 2 ≤ sizeLine; decide), fun t nt => ?_⟩
    have mono : ∀ {ty : Value}, TyX K H x ty → (ty = .type "list" ∨ ty = .type "tuple") → TyX K (upd H t (.tup [.ty "tuple", .ty "list"])) x ty := fun {ty} h _ => by
      cases h with
      | base b =>
        cases b with
        | non => exact .base .non
        | bl b => exact .base (.bl b)
        | int i => exact .base (.int i)
        | str z => exact .base (.str z)
        | flt z => exact .base (.flt z)
        | lst e => exact .base (.lst (Same.new nt _ _ e))
        | frz e => exact .base (.frz (Same.new nt _ _ e))
        | tup e => exact .base (.tup (Same.new nt _ _ e))
        | dK e => exact .base (.dK (Same.new nt _ _ e))
        | dT e => exact .base (.dT (Same.new nt _ _ e))
        | ins e c1 c2 c3 c4 c5 => exact .base (.ins (Same.new nt _ _ e) c1 c2 c3 c4 c5)
      | byt b => exact .byt b
      | set e => exact .set (Same.new nt _ _ e)
      | kList e c => exact .kList e c
      | kTuple e c => exact .kTuple e c
      | kDict e c => exact .kDict e c
      | fTuple e => exact .fTuple (Same.new nt _ _ e)
      | fDict e => exact .fDict (Same.new nt _ _ e)
    rcases hx with hx | hx
    · exact ⟨x, t, _, _, _, true, rfl, upd_same, .cons (ClsV.ty _) (.cons (ClsV.ty _) .nil), mono hx (.inl rfl), kit_row (.inl rfl), k _ (Same.new nt)⟩
    · exact ⟨x, t, _, _, _, true, rfl, upd_same, .cons (ClsV.ty _) (.cons (ClsV.ty _) .nil), mono hx (.inr rfl), kit_row (.inr rfl), k _ (Same.new nt)⟩
end
end Y
set_option Elab.async false
set_option linter.all false
set_option maxRecDepth 100000
set_option maxHeartbeats 4000000
namespace Y
open PySem L2
abbrev sIsCount : Stmt := top 2
/-- the type's name of a data -/
def tyNm : PyData → String
  | .none => "NoneType"
  | .bool _ => "bool"
  | .int _ => "int"
  | .str _ => "str"
  | .list _ => "list"
  | .tuple _ => "tuple"
  | .dict _ => "dict"
theorem dq_ty {K : PySem.W.Frag} {H : Hp} {d : PyData} {x : V} (h : Dq K H d x) : TyX K H x (.type (tyNm d)) := by
  cases h with
  | non => exact .base .non
  | bl b => exact .base (.bl b)
  | int i => exact .base (.int i)
  | str x => exact .base (.str x)
  | lst h _ => exact TyX.same (H' := H) h
  | tup h _ => exact ty_tup h
  | dct e => exact .base (.dK e)
def isI : PyData → Bool
  | .int _ => true
  | _ => false
def isCnt : PyData → Bool
  | .int z => decide (0 ≤ z)
  | _ => false
def spIsIntD (K : PySem.W.Frag) : Sp := fun vs H Q _ => ∃ (x : V) (d : PyData), vs = [x] ∧ Dq K H d x ∧ Q (.bl (isI d)) H
def spIsCountD (K : PySem.W.Frag) : Sp := fun vs H Q _ => ∃ (x : V) (d : PyData), vs = [x] ∧ Dq K H d x ∧ Q (.bl (isCnt d)) H
section
variable {P : Program} {w : World} {K : PySem.W.Frag} {mg : Str → Option Value} {base : Heap} {fInt : Addr}
theorem ok_isIntD {f : Addr} {fd : FuncData} (F : Fun K "is_integer" "is_integer" sIsInt f fd) (T : TI0 mg) : FnOk P w K mg base CX0 1 f fd ["value"] (spIsIntD K) := by
  refine F.ok scIsInt (fun vs H Q E h => ?_) (fun cdv A outer s H vs Q E hr h => ?_)
  · obtain ⟨z, d, rfl, _⟩ := h
    rfl
  · obtain ⟨x, d, rfl, hd, k⟩ := h
    refine ⟨_, pss_one (ps_ret (pe_and (pe_callB call_isi (by rfl) T.isi (by decide +kernel) (pa_cons (pv 0) (pa_cons (pbT (n := "int") T.int (by decide +kernel)) pa_nil))) (pe_one (pe_not (pe_callB call_isi (by rfl) T.isi (by decide +kernel) (pa_cons (pv 0) (pa_cons (pbT (n := "bool") T.bool (by decide +kernel)) pa_nil))))))), ?_⟩
    have ty := dq_ty hd
    cases d with
    | int z =>
      refine ⟨_, rfl, _, _, _, _, true, rfl, ClsV.ty _, ty, kit_ty (by show kitB _ _ = _; dsimp only [tyNm]; decide +kernel), true, rfl, iteT ?_⟩
      exact ⟨_, rfl, _, _, _, _, false, rfl, ClsV.ty _, ty, kit_ty (by show kitB _ _ = _; dsimp only [tyNm]; decide +kernel), false, rfl, k⟩
    | bool b =>
      refine ⟨_, rfl, _, _, _, _, true, rfl, ClsV.ty _, ty, kit_ty (by show kitB _ _ = _; dsimp only [tyNm]; decide +kernel), true, rfl, iteT ?_⟩
      exact ⟨_, rfl, _, _, _, _, true, rfl, ClsV.ty _, ty, kit_ty (by show kitB _ _ = _; dsimp only [tyNm]; decide +kernel), true, rfl, k⟩
    | none => exact ⟨_, rfl, _, _, _, _, false, rfl, ClsV.ty _, ty, kit_ty (by show kitB _ _ = _; dsimp only [tyNm]; decide +kernel), false, rfl, iteF k⟩
    | str _ => exact ⟨_, rfl, _, _, _, _, false, rfl, ClsV.ty _, ty, kit_ty (by show kitB _ _ = _; dsimp only [tyNm]; decide +kernel), false, rfl, iteF k⟩
    | list _ => exact ⟨_, rfl, _, _, _, _, false, rfl, ClsV.ty _, ty, kit_ty (by show kitB _ _ = _; dsimp only [tyNm]; decide +kernel), false, rfl, iteF k⟩
    | tuple _ => exact ⟨_, rfl, _, _, _, _, false, rfl, ClsV.ty _, ty, kit_ty (by show kitB _ _ = _; dsimp only [tyNm]; decide +kernel), false, rfl, iteF k⟩
    | dict _ => exact ⟨_, rfl, _, _, _, _, false, rfl, ClsV.ty _, ty, kit_ty (by show kitB _ _ = _; dsimp only [tyNm]; decide +kernel), false, rfl, iteF k⟩
theorem scIsCount : FnScope ["value"] ["value"] (defScope sIsCount) := ⟨rfl, rfl, rfl, by decide +kernel, rfl, by decide +kernel, by decide +kernel⟩
theorem ok_isCountD {f : Addr} {fd fdI : FuncData} (F : Fun K "is_count" "is_count" sIsCount f fd) (T : TI0 mg) (gI : mg "is_integer" = some (.ref fInt)) (FI : Fun K "is_integer" "is_integer" sIsInt fInt fdI) (bI : Binds K fdI ["value"] []) :
    FnOk P w K mg base CX0 2 f fd ["value"] (spIsCountD K) := by
  have GI : FnOk P w K mg base CX0 1 fInt fdI ["value"] (spIsIntD K) := ok_isIntD FI T
  refine F.ok scIsCount (fun vs H Q E h => ?_) (fun cdv A outer s H vs Q E hr h => ?_)
  · obtain ⟨z, d, rfl, _⟩ := h
    rfl
  · obtain ⟨x, d, rfl, hd, k⟩ := h
    refine ⟨_, pss_one (ps_ret (pe_and (pe_call GI hr (by rfl) gI FI.kp bI .nil pass0 (pa_cons (pv 0) pa_nil)) (pe_one (pe_cmpR op_ge (pv 0) pe_int (nomark _))))), ?_⟩
    refine ⟨_, rfl, x, d, rfl, hd, isI d, rfl, ?_⟩
    cases hd with
    | int z => exact iteT ⟨_, rfl, _, _, rfl, rfl, k⟩
    | _ => exact iteF k
end
end Y
set_option Elab.async false
set_option linter.all false
set_option maxRecDepth 100000
set_option maxHeartbeats 4000000
namespace Y
open PySem L2
abbrev sUnlike : Stmt := top 5
abbrev sCTies : Stmt := top 15
abbrev sCRings : Stmt := top 16
abbrev sYInit : Stmt := inClass (top 14) 0
/-! ### unlike places -/
def spUnlike (K : PySem.W.Frag) : Sp := fun vs H Q _ => ∃ (n : Nat) (y : V) (r : List Int), vs = [.int (n : Int), y] ∧ RowAt K H y r ∧ (∀ z ∈ r, 0 ≤ z ∧ z < n) ∧ r.Nodup ∧ r.length < 64 ∧ ∀ H', Same H H' → Q (.bl true) H'
structure TUn (K : PySem.W.Frag) (mg : Str → Option Value) (fInt fRow fUn fCnt : Addr) : Prop where
  i : TI0 mg
  len : mg "len" = none
  all : mg "all" = none
  set : mg "set" = none
  sorted : mg "sorted" = none
  enum : mg "enumerate" = none
  gInt : mg "is_integer" = some (.ref fInt)
  gRow : mg "is_row" = some (.ref fRow)
  gUn : mg "are_unlike_numbers" = some (.ref fUn)
  gCnt : mg "is_count" = some (.ref fCnt)
section
variable {P : Program} {w : World} {K : PySem.W.Frag} {mg : Str → Option Value} {base : Heap} {fInt fRow fUn fCnt : Addr}
theorem scUnlike : FnScope ["many", "value", "number"] ["many", "value"] (defScope sUnlike) := ⟨rfl, rfl, rfl, by decide +kernel, rfl, by decide +kernel, by decide +kernel⟩
theorem ok_unlike {f : Addr} {fd fdI fdR fdC : FuncData} (F : Fun K "are_unlike_numbers" "are_unlike_numbers" sUnlike f fd) (T : TUn K mg fInt fRow fUn fCnt) (FI : Fun K "is_integer" "is_integer" sIsInt fInt fdI) (bI : Binds K fdI ["value"] []) (FR : Fun K "is_row" "is_row" sIsRow fRow fdR) (bR : Binds K fdR ["value"] [])
    (FC : Fun K "is_count" "is_count" sIsCount fCnt fdC) (bC : Binds K fdC ["value"] []) : FnOk P w K mg base CX0 3 f fd ["many", "value"] (spUnlike K) := by
  have GC : FnOk P w K mg base CX0 2 fCnt fdC ["value"] (spIsCountD K) := ok_isCountD FC T.i T.gInt FI bI
  have GR : FnOk P w K mg base CX0 2 fRow fdR ["value"] (spIsRow K) := (ok_isRow FR T.i).mono (by decide)
  refine F.ok scUnlike (fun vs H Q E h => ?_) (fun cdv A outer s H vs Q E hr h => ?_)
  · obtain ⟨n, y, r, rfl, _⟩ := h
    rfl
  · obtain ⟨n, y, r, rfl, ⟨b, rfl, hb⟩, rb, rn, r64, k⟩ := h
    refine ⟨_, pss_cons (ps_if (PW.pt (pw_or (pt_not (pt_val (pe_call GR hr (by rfl) T.gRow FR.kp bR .nil pass0 (pa_cons (pv 1) pa_nil)))) (pw_or1 (pt_not (pt_val (pe_callB (cr_all rfl) (by rfl) T.all (by decide +kernel) (pa_cons (pe_lc (own := [("number", 2)]) (g := gName 2) (tt := tYes) rfl scUnlike.nd (pi_seqV (pv 1)) (blkOk_by (N := ["many", "value", "number"]) (sc := defScope sUnlike) (by decide +kernel))
          (fun _ _ _ _ _ => pg_name (i := 2) scUnlike.nd rfl (Or.inl rfl)) (fun _ _ _ _ _ => pts_nil) (fun _ _ _ _ _ => pe_and (pe_call GC hr (by rfl) T.gCnt FC.kp bC .nil pass0 (pa_cons (pv 2) pa_nil)) (pe_one (pe_cmpR op_lt (pv 2) (pv 0) (nomark _))))) pa_nil)))))) ) (pss_one (ps_ret pe_bl)) pss_nil)
      (pss_one (ps_ret (pe_cmpR op_eq (pe_lenSet2 rfl (by rfl) T.len (by rfl) T.set (pv 1)) (pe_callB call_len_seq (by rfl) T.len PySem.boot_len (pa_cons (pv 1) pa_nil)) (nomark _)))), ?_⟩
    refine ⟨_, rfl, _, rfl, hb.imp (TyX.same (H' := H)) ty_tup, fun H1 s1 => ⟨_, rfl, iteF ?_⟩⟩
    refine ⟨b, r.map V.int, H, rfl, hb, .of_same s1, fun J G w1 hG D hD => ?_⟩
    refine lcp_it (f := fun _ => V.bl true) (H1 := H1) w1 hD (by rw [List.length_map]; omega) (fun H' s' => hG H' ((Kp.of_same s1).trans s')) (fun i x0 H2 R hx s2 hR => ?_) ?_
    · obtain ⟨z, ez, rfl⟩ := ints_at hx
      obtain ⟨z0, z1⟩ := rb z (List.mem_of_getElem? ez)
      refine ⟨rfl, _, rfl, _, _, rfl, Dq.int z, true, by show V.bl (decide (0 ≤ z)) = _; rw [decide_eq_true z0], iteT ?_⟩
      refine ⟨_, rfl, _, rfl, _, _, rfl, rfl, ?_⟩
      show R (V.bl (decide (z < (n : Int)))) H2
      rw [decide_eq_true z1]
      exact hR
    · have s2 := s1.trans (Same.new (o := .lst ((r.map V.int).map fun _ => V.bl true)) hD)
      refine ⟨D, r.map fun _ => true, rfl, ?_, ?_⟩
      · rw [List.map_map, List.map_map] at *
        exact SqL.of upd_same
      have allT : (r.map fun _ => true).all id = true := by
        rw [List.all_map, List.all_eq_true]
        intro x _
        rfl
      rw [allT]
      refine ⟨_, rfl, iteF ?_⟩
      refine ⟨_, rfl, b, r, rfl, Same.seqA s2 hb, r64, rn, _, rfl, b, _, rfl, Same.seqA s2 hb, rfl, ?_⟩
      rw [List.length_map, decide_eq_true rfl]
      exact k _ s2
end
end Y
set_option linter.all false
set_option maxRecDepth 100000
set_option maxHeartbeats 1000000
namespace Y
open PySem L2
/-! ### the mathematics of turns -/
/-- the place of the ring's i-th, as an index -/
def pl (r : List Int) (i : Nat) : Nat := (r.getD i 0).toNat
theorem pl_inj {n : Nat} {r : List Int} (ok : RingOk n r) {i j : Nat} (hi : i < r.length) (hj : j < r.length) (h : pl r i = pl r j) : i = j := by
  obtain ⟨nd, rb, _, _⟩ := ok
  have h1 := rb _ (getD_mem hi)
  have h2 := rb _ (getD_mem hj)
  have e : r.getD i 0 = r.getD j 0 := by unfold pl at h; omega
  rw [List.getD_eq_getElem?_getD, List.getD_eq_getElem?_getD, List.getElem?_eq_getElem hi, List.getElem?_eq_getElem hj] at e
  have e' : r[i] = r[j] := e
  exact (List.getElem_inj nd).mp e'
theorem pl_lt {n : Nat} {r : List Int} (ok : RingOk n r) {i : Nat} (hi : i < r.length) : pl r i < n := by
  have h1 := ok.2.1 _ (getD_mem hi)
  unfold pl
  omega
theorem getD_set_eq {l : List Int} {i : Nat} {v : Int} (h : i < l.length) : (l.set i v).getD i 0 = v := by
  rw [List.getD_eq_getElem?_getD, List.getElem?_set_self h]
  rfl
theorem getD_set_ne {l : List Int} {i j : Nat} {v : Int} (h : i ≠ j) : (l.set i v).getD j 0 = l.getD j 0 := by
  rw [List.getD_eq_getElem?_getD, List.getD_eq_getElem?_getD, List.getElem?_set_ne h]
theorem mod_ne {n i j : Nat} (hi : i < n) (hj : j < n) (h : i ≠ j) : (i + 1) % n ≠ (j + 1) % n := by
  have e : ∀ k, k < n → (k + 1) % n = if k + 1 = n then 0 else k + 1 := fun k hk => by
    by_cases c : k + 1 = n
    · rw [if_pos c, c, Nat.mod_self]
    · rw [if_neg c, Nat.mod_eq_of_lt (by omega)]
  rw [e i hi, e j hj]
  split <;> split <;> omega
theorem turnTo_at {n : Nat} {r st : List Int} (ok : RingOk n r) (hs : st.length = n) : ∀ m, m ≤ r.length → (∀ j, j < m → (turnTo r st m).getD (pl r ((j + 1) % r.length)) 0 = st.getD (pl r j) 0) ∧
    (∀ p, (∀ j, j < m → pl r ((j + 1) % r.length) ≠ p) → (turnTo r st m).getD p 0 = st.getD p 0)
  | 0, _ => ⟨fun j h => absurd h (Nat.not_lt_zero _), fun p _ => rfl⟩
  | m + 1, hm => by
    obtain ⟨h1, h2⟩ := turnTo_at ok hs m (by omega)
    have hpos : 0 < r.length := by omega
    have hmod : ∀ j, (j + 1) % r.length < r.length := fun j => Nat.mod_lt _ hpos
    have e : turnTo r st (m + 1) = (turnTo r st m).set (pl r ((m + 1) % r.length)) (st.getD (pl r m) 0) := turnTo_succ r st m
    rw [e]
    refine ⟨fun j hj => ?_, fun p hp => ?_⟩
    · by_cases c : j = m
      · subst c
        exact getD_set_eq (by rw [turnTo_len, hs]; exact pl_lt ok (hmod j))
      · rw [getD_set_ne (fun z => mod_ne (by omega) (by omega) (Ne.symm c) (pl_inj ok (hmod m) (hmod j) z))]
        exact h1 j (by omega)
    · rw [getD_set_ne (hp m (by omega))]
      exact h2 p fun j hj => hp j (by omega)
/-- one turn: at the ring's i-th stands what stood at the one ahead of it -/
def turn1 (r st : List Int) : List Int := turnTo r st r.length
theorem turn1_len {r st : List Int} : (turn1 r st).length = st.length := turnTo_len _ _ _
theorem turn1_ring {n : Nat} {r st : List Int} (ok : RingOk n r) (hs : st.length = n) {i : Nat} (hi : i < r.length) : (turn1 r st).getD (pl r i) 0 = st.getD (pl r ((i + (r.length - 1)) % r.length)) 0 := by
  have h3 := ok.2.2.1
  by_cases c : i = 0
  · subst c
    have := (turnTo_at ok hs r.length (Nat.le_refl _)).1 (r.length - 1) (by omega)
    rw [show r.length - 1 + 1 = r.length by omega, Nat.mod_self] at this
    rw [Nat.zero_add, Nat.mod_eq_of_lt (by omega)]
    exact this
  · have := (turnTo_at ok hs r.length (Nat.le_refl _)).1 (i - 1) (by omega)
    rw [show i - 1 + 1 = i by omega, Nat.mod_eq_of_lt hi] at this
    have e : (i + (r.length - 1)) % r.length = i - 1 := by
      rw [show i + (r.length - 1) = (i - 1) + r.length by omega, Nat.add_mod_right, Nat.mod_eq_of_lt (by omega)]
    rw [e]
    exact this
theorem turn1_off {n : Nat} {r st : List Int} (ok : RingOk n r) (hs : st.length = n) {p : Nat} (hp : ∀ i, i < r.length → pl r i ≠ p) : (turn1 r st).getD p 0 = st.getD p 0 :=
  (turnTo_at ok hs r.length (Nat.le_refl _)).2 p fun j hj => hp _ (Nat.mod_lt _ (by have := ok.2.2.1; omega))
def turnN (r : List Int) : Nat → List Int → List Int
  | 0, st => st
  | m + 1, st => turnN r m (turn1 r st)
theorem turnN_len {r : List Int} : ∀ {m : Nat} {st : List Int}, (turnN r m st).length = st.length
  | 0, _ => rfl
  | m + 1, st => by show (turnN r m (turn1 r st)).length = _; rw [turnN_len, turn1_len]
theorem turnN_ring {n : Nat} {r : List Int} (ok : RingOk n r) : ∀ {m : Nat} {st : List Int}, st.length = n → ∀ {i : Nat}, i < r.length → (turnN r m st).getD (pl r i) 0 = st.getD (pl r ((i + m * (r.length - 1)) % r.length)) 0
  | 0, st, _, i, hi => by rw [Nat.zero_mul, Nat.add_zero, Nat.mod_eq_of_lt hi]; rfl
  | m + 1, st, hs, i, hi => by
    have hpos : 0 < r.length := by omega
    show (turnN r m (turn1 r st)).getD (pl r i) 0 = _
    rw [turnN_ring ok (by rw [turn1_len, hs]) hi, turn1_ring ok hs (Nat.mod_lt _ hpos), Nat.mod_add_mod]
    congr 3
    rw [Nat.succ_mul]
    omega
theorem turnN_off {n : Nat} {r : List Int} (ok : RingOk n r) : ∀ {m : Nat} {st : List Int}, st.length = n → ∀ {p : Nat}, (∀ i, i < r.length → pl r i ≠ p) → (turnN r m st).getD p 0 = st.getD p 0
  | 0, _, _, _, _ => rfl
  | m + 1, st, hs, p, hp => by
    show (turnN r m (turn1 r st)).getD p 0 = _
    rw [turnN_off ok (by rw [turn1_len, hs]) hp, turn1_off ok hs hp]
/-- turned as often as the ring is long, all stands as it stood -/
theorem turnN_all {n : Nat} {r st : List Int} (ok : RingOk n r) (hs : st.length = n) : turnN r r.length st = st := by
  refine List.ext_getElem? fun p => ?_
  by_cases hp : p < st.length
  · have hp' : p < (turnN r r.length st).length := by rw [turnN_len]; exact hp
    have g : (turnN r r.length st).getD p 0 = st.getD p 0 := by
      by_cases c : ∃ i, i < r.length ∧ pl r i = p
      · obtain ⟨i, hi, rfl⟩ := c
        rw [turnN_ring ok hs hi, Nat.add_mul_mod_self_left, Nat.mod_eq_of_lt hi]
      · exact turnN_off ok hs fun i hi z => c ⟨i, hi, z⟩
    rw [List.getD_eq_getElem?_getD, List.getD_eq_getElem?_getD, List.getElem?_eq_getElem hp', List.getElem?_eq_getElem hp] at g
    rw [List.getElem?_eq_getElem hp', List.getElem?_eq_getElem hp]
    exact congrArg some g
  · rw [List.getElem?_eq_none (by rw [turnN_len]; omega), List.getElem?_eq_none (by omega)]
end Y
set_option linter.all false
set_option maxRecDepth 100000
set_option maxHeartbeats 1000000
namespace Y
open PySem L2
/-! ### what is taken back stands as it stood -/
theorem play_app {rs : List (List Int)} : ∀ {l l2 : List Mv} {st : List Int}, playMvs rs st (l ++ l2) = playMvs rs (playMvs rs st l) l2
  | [], _, _ => rfl
  | a :: l, l2, st => play_app (l := l) (l2 := l2) (st := stepMv rs st a)
theorem can_app {n : Nat} {ts : List (Int × Int)} {rs : List (List Int)} : ∀ {l l2 : List Mv} {st : List Int}, CanAll n ts rs st l → CanAll n ts rs (playMvs rs st l) l2 → CanAll n ts rs st (l ++ l2)
  | [], _, _, _, h => h
  | a :: l, l2, st, h, g => ⟨h.1, can_app (l := l) h.2 g⟩
theorem can_split {n : Nat} {ts : List (Int × Int)} {rs : List (List Int)} {m : Mv} : ∀ {l : List Mv} {st : List Int}, CanAll n ts rs st (l ++ [m]) → CanAll n ts rs st l ∧ CanMv n ts rs (playMvs rs st l) m
  | [], st, h => ⟨trivial, h.1⟩
  | a :: l, st, h => ⟨⟨h.1, (can_split (l := l) h.2).1⟩, (can_split (l := l) h.2).2⟩
theorem play_turns {rs : List (List Int)} {k : Int} : ∀ {m : Nat} {st : List Int}, playMvs rs st (List.replicate m (.turn k)) = turnN (rs.getD k.toNat []) m st
  | 0, _ => rfl
  | m + 1, st => play_turns (m := m) (st := stepMv rs st (.turn k))
theorem can_turns {n : Nat} {ts : List (Int × Int)} {rs : List (List Int)} {k : Int} (h : 0 ≤ k ∧ k < rs.length) : ∀ {m : Nat} {st : List Int}, CanAll n ts rs st (List.replicate m (.turn k))
  | 0, _ => trivial
  | m + 1, _ => ⟨h, can_turns h⟩
theorem back_one {n : Nat} {ts : List (Int × Int)} {rs : List (List Int)} {st : List Int} {m : Mv} {x : List Mv} (tok : ∀ t ∈ ts, TieOk n t) (rok : ∀ r ∈ rs, RingOk n r) (hs : st.length = n) (c : CanMv n ts rs st m) (h : backOne ts rs m = some x) :
    CanAll n ts rs (stepMv rs st m) x ∧ playMvs rs (stepMv rs st m) x = st := by
  cases m with
  | turn k =>
    obtain ⟨k0, k1⟩ := c
    have hk : k.toNat < rs.length := by omega
    have e : rs.getD k.toNat [] = rs[k.toNat] := by rw [List.getD_eq_getElem?_getD, List.getElem?_eq_getElem hk]; rfl
    have ok : RingOk n (rs.getD k.toNat []) := by rw [e]; exact rok _ (List.getElem_mem hk)
    cases Option.some.inj h
    refine ⟨can_turns ⟨k0, k1⟩, ?_⟩
    rw [play_turns]
    have h3 := ok.2.2.1
    have all := turnN_all ok hs
    unfold ringLen
    generalize hr : rs.getD k.toNat [] = r at *
    have : r.length = (r.length - 1) + 1 := by omega
    rw [this] at all
    show turnN r (r.length - 1) (turnTo (rs.getD k.toNat []) st (rs.getD k.toNat []).length) = st
    rw [hr]
    exact all
  | slide a b =>
    obtain ⟨hin, ⟨a0, a1, b0, b1, ab⟩, ga, gb⟩ := c
    have h' : (if (b, a) ∈ ts then some [Mv.slide b a] else none) = some x := h
    by_cases hba : (b, a) ∈ ts
    · rw [if_pos hba] at h'
      cases Option.some.inj h'
      have na : a.toNat ≠ b.toNat := by
        intro z
        exact ab (by show a = b; have : (0 : Int) ≤ a := a0; have : (0 : Int) ≤ b := b0; omega)
      have la : a.toNat < st.length := by have : a < n := a1; have : (0 : Int) ≤ a := a0; omega
      have lb : b.toNat < st.length := by have : b < n := b1; have : (0 : Int) ≤ b := b0; omega
      have e1 : gAt (stepMv rs st (.slide a b)) b = gAt st a := getD_set_eq (by rw [List.length_set]; exact lb)
      have e2 : gAt (stepMv rs st (.slide a b)) a = 0 := by
        show ((st.set a.toNat 0).set b.toNat (gAt st a)).getD a.toNat 0 = 0
        rw [getD_set_ne (Ne.symm na), getD_set_eq la]
      refine ⟨⟨⟨hba, tok _ hba, by rw [e1]; exact ga, e2⟩, trivial⟩, ?_⟩
      show ((stepMv rs st (.slide a b)).set b.toNat 0).set a.toNat (gAt (stepMv rs st (.slide a b)) b) = st
      rw [e1]
      show ((((st.set a.toNat 0).set b.toNat (gAt st a)).set b.toNat 0).set a.toNat (gAt st a)) = st
      refine List.ext_getElem? fun p => ?_
      by_cases pa : a.toNat = p
      · subst pa
        rw [List.getElem?_set_self (by simp only [List.length_set]; exact la), List.getElem?_eq_getElem la]
        unfold gAt
        rw [List.getD_eq_getElem?_getD, List.getElem?_eq_getElem la]
        rfl
      · rw [List.getElem?_set_ne pa]
        by_cases pb : b.toNat = p
        · subst pb
          rw [List.getElem?_set_self (by simp only [List.length_set]; exact lb), List.getElem?_eq_getElem lb]
          unfold gAt at gb
          rw [List.getD_eq_getElem?_getD, List.getElem?_eq_getElem lb] at gb
          exact congrArg some gb.symm
        · rw [List.getElem?_set_ne pb, List.getElem?_set_ne pb, List.getElem?_set_ne pa]
    · rw [if_neg hba] at h'
      cases h'
theorem back_all {n : Nat} {ts : List (Int × Int)} {rs : List (List Int)} {st : List Int} (tok : ∀ t ∈ ts, TieOk n t) (rok : ∀ r ∈ rs, RingOk n r) (hs : st.length = n) : ∀ (l : List Mv) (bs : List Mv), CanAll n ts rs st l.reverse → backs ts rs l = some bs →
    CanAll n ts rs (playMvs rs st l.reverse) bs ∧ playMvs rs (playMvs rs st l.reverse) bs = st
  | [], bs, _, h => by
    cases Option.some.inj h
    exact ⟨trivial, rfl⟩
  | m :: l, bs, c, h => by
    rw [List.reverse_cons] at c ⊢
    obtain ⟨c1, c2⟩ := can_split c
    have h' : ((backOne ts rs m).bind fun x => (backs ts rs l).map (x ++ ·)) = some bs := h
    cases h1 : backOne ts rs m with
    | none => rw [h1] at h'; cases h'
    | some x =>
      rw [h1] at h'
      cases h2 : backs ts rs l with
      | none => rw [h2] at h'; cases h'
      | some y =>
        rw [h2] at h'
        cases Option.some.inj h'
        obtain ⟨i1, i2⟩ := back_all tok rok hs l y c1 h2
        obtain ⟨b1, b2⟩ := back_one tok rok (by rw [play_len, hs]) c2 h1
        rw [play_snoc]
        refine ⟨can_app b1 (by rw [b2]; exact i1), ?_⟩
        rw [play_app, b2]
        exact i2
end Y
set_option Elab.async false
set_option linter.all false
set_option maxRecDepth 100000
set_option maxHeartbeats 4000000
namespace Y
open PySem L2
abbrev sIsMove : Stmt := top 19
/-- what the yard's class must keep -/
structure YCls (K : PySem.W.Frag) (C : Addr) : Prop where
  c : Cls K C
  p : NoAttr K C "places"
  t : NoAttr K C "ties"
  r : NoAttr K C "rings"
/-- at x: a yard made of n places, ties ts, rings rs -/
def YObj (K : PySem.W.Frag) (H : Hp) (x : Addr) (n : Nat) (ts : List (Int × Int)) (rs : List (List Int)) : Prop := ∃ (C dx a e : Addr) (fs : List (Str × V)) (ys zs : List V), H x = some (.ins C dx fs) ∧ YCls K C ∧ fs.lookup ("places" : Str) = some (.int (n : Int)) ∧ fs.lookup ("ties" : Str) = some (.ref a) ∧ fs.lookup ("rings" : Str) = some (.ref e) ∧
  SqT K H a ys ∧ Paired (TieAt K H) ys ts ∧ SqT K H e zs ∧ Paired (RingAt K H) zs rs
theorem YObj.kp {K : PySem.W.Frag} {H H' : Hp} {x : Addr} {n : Nat} {ts : List (Int × Int)} {rs : List (List Int)} (h : YObj K H x n ts rs) (s : Kp H H') : YObj K H' x n ts rs := by
  obtain ⟨C, dx, a, e, fs, ys, zs, h1, h2, h3, h4, h5, h6, h7, h8, h9⟩ := h
  exact ⟨C, dx, a, e, fs, ys, zs, s _ _ h1 (by intro _ z; cases z), h2, h3, h4, h5, s.seqT h6, ties_kp h7 s, s.seqT h8, rings_kp h9 s⟩
/-- the same, the class told -/
def YObjC (K : PySem.W.Frag) (H : Hp) (C x : Addr) (n : Nat) (ts : List (Int × Int)) (rs : List (List Int)) : Prop := ∃ (dx a e : Addr) (fs : List (Str × V)) (ys zs : List V), H x = some (.ins C dx fs) ∧ YCls K C ∧ fs.lookup ("places" : Str) = some (.int (n : Int)) ∧ fs.lookup ("ties" : Str) = some (.ref a) ∧ fs.lookup ("rings" : Str) = some (.ref e) ∧
  SqT K H a ys ∧ Paired (TieAt K H) ys ts ∧ SqT K H e zs ∧ Paired (RingAt K H) zs rs
theorem YObjC.y {K : PySem.W.Frag} {H : Hp} {C x : Addr} {n : Nat} {ts : List (Int × Int)} {rs : List (List Int)} (h : YObjC K H C x n ts rs) : YObj K H x n ts rs := by
  obtain ⟨dx, a, e, fs, ys, zs, h⟩ := h
  exact ⟨C, dx, a, e, fs, ys, zs, h⟩
theorem YObjC.kp {K : PySem.W.Frag} {H H' : Hp} {C x : Addr} {n : Nat} {ts : List (Int × Int)} {rs : List (List Int)} (h : YObjC K H C x n ts rs) (s : Kp H H') : YObjC K H' C x n ts rs := by
  obtain ⟨dx, a, e, fs, ys, zs, h1, h2, h3, h4, h5, h6, h7, h8, h9⟩ := h
  exact ⟨dx, a, e, fs, ys, zs, s _ _ h1 (by intro _ z; cases z), h2, h3, h4, h5, s.seqT h6, ties_kp h7 s, s.seqT h8, rings_kp h9 s⟩
/-- a move of this yard -/
def MvIn (ts : List (Int × Int)) (rs : List (List Int)) : Mv → Prop
  | .slide a b => (a, b) ∈ ts
  | .turn k => 0 ≤ k ∧ k < rs.length
def spIsMove (K : PySem.W.Frag) : Sp := fun vs H Q _ => ∃ (x : Addr) (y : V) (n : Nat) (ts : List (Int × Int)) (rs : List (List Int)) (m : Mv), vs = [.ref x, y] ∧ YObj K H x n ts rs ∧ MvAt K H y m ∧ MvIn ts rs m ∧ ∀ H', Same H H' → Q (.bl true) H'
structure TN (K : PySem.W.Frag) (mg : Str → Option Value) (fInt : Addr) : Prop where
  i : TI0 mg
  str : mg "str" = none
  len : mg "len" = none
  all : mg "all" = none
  gInt : mg "is_integer" = some (.ref fInt)
section
variable {P : Program} {w : World} {K : PySem.W.Frag} {mg : Str → Option Value} {base : Heap} {fInt : Addr}
theorem scIsMove : FnScope ["yard", "value", "number"] ["yard", "value"] (defScope sIsMove) := ⟨rfl, rfl, rfl, by decide +kernel, rfl, by decide +kernel, by decide +kernel⟩
theorem ok_isMove {f : Addr} {fd fdI : FuncData} (F : Fun K "is_move" "is_move" sIsMove f fd) (T : TN K mg fInt) (FI : Fun K "is_integer" "is_integer" sIsInt fInt fdI) (bI : Binds K fdI ["value"] []) : FnOk P w K mg base CX0 2 f fd ["yard", "value"] (spIsMove K) := by
  have GI : FnOk P w K mg base CX0 1 fInt fdI ["value"] spIsInt := ok_isInt FI T.i
  refine F.ok scIsMove (fun vs H Q E h => ?_) (fun cdv A outer s H vs Q E hr h => ?_)
  · obtain ⟨x, y, n, ts, rs, m, rfl, _⟩ := h
    rfl
  · obtain ⟨x, y, n, ts, rs, m, rfl, hy, ⟨b, rfl, hm⟩, hin, k⟩ := h
    have hu := hr.units
    refine ⟨_, pss_cons (ps_if (PW.pt (pw_or (pt_not (pt_val (pe_callB call_isi (by rfl) T.i.isi (by decide +kernel) (pa_cons (pv 1) (pa_cons (pbT (n := "tuple") T.i.tuple (by decide +kernel)) pa_nil)))))
        (pw_or (pt_cmpR op_lt (pe_callB call_len_seq (by rfl) T.len PySem.boot_len (pa_cons (pv 1) pa_nil)) pe_int (nomark _)) (pw_or1 (pt_not (pt_val (pe_callB call_isi (by rfl) T.i.isi (by decide +kernel) (pa_cons (pe_ix ix_tup (pv 1) pe_int (fun _ _ => rfl)) (pa_cons (pbT (n := "str") T.str (by decide +kernel)) pa_nil))))))))) (pss_one (ps_ret pe_bl)) pss_nil)
      (pss_cons (ps_if (pt_not (pt_val (pe_callB (cr_all rfl) (by rfl) T.all (by decide +kernel) (pa_cons (pe_lc (own := [("number", 2)]) (g := gName 2) (tt := tYes) rfl scIsMove.nd (pi_tup (pe_slice sl_tup (pv 1) (po_some pe_int) po_none)) (blkOk_by (N := ["yard", "value", "number"]) (sc := defScope sIsMove) (by decide +kernel))
          (fun _ _ _ _ _ => pg_name (i := 2) scIsMove.nd rfl (Or.inl rfl)) (fun _ _ _ _ _ => pts_nil) (fun _ _ _ _ _ => pe_call GI hr (by rfl) T.gInt FI.kp bI .nil pass0 (pa_cons (pv 2) pa_nil))) pa_nil)))) (pss_one (ps_ret pe_bl)) pss_nil)
      (pss_cons (ps_if (pt_cmpR op_eq (pe_ix ix_tup (pv 1) pe_int (fun _ _ => rfl)) pe_str (nomark _)) (pss_one (ps_ret (pe_cmpR (op_tieIn hu) (pe_slice sl_tup (pv 1) (po_some pe_int) po_none) (pe_fld (pv 0) rfl) (by rfl)))) pss_nil)
      (pss_one (ps_ret (pe_and (pe_cmpR op_eq (pe_ix ix_tup (pv 1) pe_int (fun _ _ => rfl)) pe_str (nomark _)) (pe_and (pe_cmpR op_eq (pe_callB call_len_seq (by rfl) T.len PySem.boot_len (pa_cons (pv 1) pa_nil)) pe_int (nomark _))
        (pe_one (pe_chain op_le op_lt pe_int (pe_ix ix_tup (pv 1) pe_int (fun _ _ => rfl)) (pe_callB call_len_seq (by rfl) T.len PySem.boot_len (pa_cons (pe_fld (pv 0) rfl) pa_nil)))))))))), ?_⟩
    obtain ⟨C, dx, a, e, fs, ys, zs, hx, yc, lp, lt, lr, ha, pa, he, pe⟩ := hy
    -- the numbers behind the word
    have nums : ∃ (wd : Str) (ns : List Int), m.vs = .str wd :: ns.map V.int ∧ 1 ≤ ns.length ∧ ns.length ≤ 2 := by
      cases m with
      | slide u v => exact ⟨_, [u, v], rfl, by simp, by simp⟩
      | turn u => exact ⟨_, [u], rfl, by simp, by simp⟩
    obtain ⟨wd, ns, em, l1, l2⟩ := nums
    have hm' := hm
    rw [em] at hm'
    refine ⟨_, rfl, _, _, _, _, true, rfl, ClsV.ty _, ty_tup hm', kit_ty (by decide +kernel), _, rfl, ?_⟩
    refine iteF ?_
    refine ⟨_, rfl, b, _, rfl, .inr hm', _, _, rfl, rfl, _, rfl, ?_⟩
    refine ifT (fun h => by
      have h' : (((V.str wd :: ns.map V.int).length : Nat) : Int) < 2 := of_decide_eq_true h
      rw [List.length_cons, List.length_map] at h'
      omega) (fun _ => ?_)
    refine ⟨_, rfl, b, _, 0, _, rfl, rfl, hm', atI_nat (j := 0) rfl, _, _, _, _, true, rfl, ClsV.ty _, .base (TyOf.str _), kit_ty (by decide +kernel), _, rfl, ?_⟩
    refine iteF ?_
    have cut1 : cutV (V.str wd :: ns.map V.int) (some 1) none = ns.map V.int := by
      unfold cutV
      have e1 : HT.sIx (V.str wd :: ns.map V.int).length 0 (some 1) = 1 := by
        rw [show (some (1 : Int)) = some ((1 : Nat) : Int) from rfl, HT.sIx_nat, List.length_cons]
        omega
      rw [e1, HT.sIx_none, List.drop_one, List.tail_cons]
      exact List.take_of_length_le (by rw [List.length_map, List.length_cons, List.length_map]; omega)
    have ncut : ¬ (HT.sIx (V.str wd :: ns.map V.int).length 0 (some 1) = 0 ∧ HT.sIx (V.str wd :: ns.map V.int).length (V.str wd :: ns.map V.int).length none = (V.str wd :: ns.map V.int).length) := by
      rintro ⟨h, _⟩
      rw [show (some (1 : Int)) = some ((1 : Nat) : Int) from rfl, HT.sIx_nat, List.length_cons] at h
      omega
    refine ⟨_, rfl, _, rfl, b, _, rfl, hm', ncut, fun p np => ?_⟩
    rw [cut1]
    have s1 := Same.new (o := .tup (ns.map V.int)) np
    refine ⟨p, rfl, ⟨_, SqT.of upd_same⟩, fun D hD => ?_⟩
    refine lcp_tup (f := fun _ => V.bl true) (xs := ns.map V.int) hD (by rw [List.length_map]; omega) (SqT.of upd_same) (fun H' s' => SqT.of (s' _ _ upd_same)) (fun i x0 H2 R hx2 s2 hR => ?_) ?_
    · obtain ⟨z, _, rfl⟩ := ints_at hx2
      exact ⟨rfl, _, rfl, z, rfl, hR⟩
    · have s2 := s1.trans (Same.new (o := .lst ((ns.map V.int).map fun _ => V.bl true)) hD)
      refine ⟨D, ns.map fun _ => true, rfl, ?_, ?_⟩
      · rw [List.map_map, List.map_map] at *
        exact SqL.of upd_same
      have allT : (ns.map fun _ => true).all id = true := by
        rw [List.all_map, List.all_eq_true]
        intro x _
        rfl
      rw [allT]
      refine ⟨_, rfl, ?_⟩
      refine iteF ?_
      have hm2 := Same.seqT s2 hm
      have hx2 := s2 _ _ hx
      cases m with
      | slide u v =>
        have hin' : (u, v) ∈ ts := hin
        refine ⟨_, rfl, b, _, 0, _, rfl, rfl, hm2, atI_nat (j := 0) rfl, rfl, _, rfl, ?_⟩
        refine iteT ?_
        refine ⟨_, rfl, _, rfl, b, _, rfl, hm2, (by
          rintro ⟨h, _⟩
          have h' : HT.sIx 3 0 (some ((1 : Nat) : Int)) = 0 := h
          rw [HT.sIx_nat] at h'
          omega), fun p2 np2 => ?_⟩
        have s3 := s2.trans (Same.new (o := .tup [.int u, .int v]) np2)
        refine ⟨_, rfl, x, C, dx, fs, _, rfl, s3 _ _ hx, yc.c, yc.t, lt, a, ys, ts, (u, v), rfl, Same.seqT s3 ha, ties_kp pa (.of_same s3), ⟨p2, rfl, SqT.of upd_same⟩, ?_⟩
        rw [if_neg (by decide), decide_eq_true hin']
        exact k _ s3
      | turn kk =>
        obtain ⟨k0, k1⟩ := hin
        have hz := Paired.length pe
        refine ⟨_, rfl, b, _, 0, _, rfl, rfl, hm2, atI_nat (j := 0) rfl, rfl, _, rfl, ?_⟩
        refine iteF ?_
        refine ⟨_, rfl, b, _, 0, _, rfl, rfl, hm2, atI_nat (j := 0) rfl, rfl, true, rfl, iteT ?_⟩
        refine ⟨_, rfl, b, _, rfl, .inr hm2, rfl, true, rfl, iteT ?_⟩
        refine ⟨_, rfl, b, _, 1, _, rfl, rfl, hm2, atI_nat (j := 1) rfl, ?_⟩
        refine ⟨_, _, rfl, rfl, _, rfl, ?_⟩
        rw [decide_eq_true k0]
        refine iteT ?_
        refine ⟨_, rfl, x, C, dx, fs, _, rfl, hx2, yc.c, yc.r, lr, e, zs, rfl, .inr (Same.seqT s2 he), _, _, rfl, rfl, ?_⟩
        show Q (V.bl (decide (kk < ((zs.length : Nat) : Int)))) _
        rw [decide_eq_true (show kk < ((zs.length : Nat) : Int) by rw [hz]; exact k1)]
        exact k _ s2
end
end Y
set_option Elab.async false
set_option linter.all false
set_option maxRecDepth 100000
set_option maxHeartbeats 4000000
namespace Y
open PySem L2
/-! ### the ties, checked -/
def row2 (t : Int × Int) : List Int := [t.1, t.2]
theorem row2_inj {t u : Int × Int} (h : row2 t = row2 u) : t = u := by
  injection h with h1 h2
  injection h2 with h2 _
  exact Prod.ext h1 h2
theorem seqT_offE {K : PySem.W.Frag} {H : Hp} {D b : Addr} {xs : List V} {o u : HO} (h : SqT K H b xs) (e : H D = some u) (n1 : ∀ ys, u ≠ .tup ys) (n2 : ∀ o ys, u ≠ .frz o (.tup ys)) : SqT K (upd H D o) b xs := by
  rcases h with (h | ⟨o', h⟩) | h
  · exact .inl (.inl (by rw [upd_ne (fun z => n1 xs (by rw [z, e] at h; exact Option.some.inj h))]; exact h))
  · exact .inl (.inr ⟨o', by rw [upd_ne (fun z => n2 o' xs (by rw [z, e] at h; exact Option.some.inj h))]; exact h⟩)
  · exact .inr h
theorem seqT_offS {K : PySem.W.Frag} {P : Program} {w : World} {H : Hp} {D b a : Addr} {xs : List V} {o : HO} {L : List (Addr × List Int)} (h : SqT K H b xs) (e : H D = some (SetTO P w a L)) : SqT K (upd H D o) b xs :=
  seqT_offE h e (fun ys z => by unfold SetTO at z; cases z) (fun o ys z => by unfold SetTO at z; cases z)
theorem ties_uniq {n : Nat} {A : List (List Int)} {ts : List (Int × Int)} (h64 : n ≤ 60) (p : A.Perm (ts.map row2)) (ok : TiesOk n ts) (pw : A.Pairwise fun a b => TS.code 64 a ≤ TS.code 64 b) : A = ts.map row2 := by
  refine List.Perm.eq_of_pairwise (le := fun a b => TS.code 64 a ≤ TS.code 64 b) (fun a b ha hb h1 h2 => ?_) pw ?_ p
  · obtain ⟨t, ht, rfl⟩ := List.mem_map.mp (p.mem_iff.mp ha)
    obtain ⟨u, hu, rfl⟩ := List.mem_map.mp hb
    obtain ⟨a0, a1, b0, b1, _⟩ := ok.2.1 t ht
    obtain ⟨c0, c1, d0, d1, _⟩ := ok.2.1 u hu
    have e1 : TS.code 64 (row2 t) = t.1 * 64 + t.2 := code_pair _ _
    have e2 : TS.code 64 (row2 u) = u.1 * 64 + u.2 := code_pair _ _
    rw [e1, e2] at h1 h2
    have f1 : t.1 = u.1 := by omega
    have f2 : t.2 = u.2 := by omega
    rw [Prod.ext f1 f2]
  · rw [List.pairwise_map]
    exact ok.2.2
theorem ties_of {K : PySem.W.Frag} {H : Hp} : ∀ {L : List (Addr × List Int)} {ts : List (Int × Int)}, L.map (·.2) = ts.map row2 → (∀ p ∈ L, SqT K H p.1 (p.2.map V.int)) → Paired (TieAt K H) (L.map fun q => V.ref q.1) ts
  | [], [], _, _ => .nil
  | [], _ :: _, e, _ => by cases e
  | _ :: _, [], e, _ => by cases e
  | p :: L, t :: ts, e, h => by
    injection e with e1 e2
    refine .cons ⟨p.1, rfl, ?_⟩ (ties_of e2 fun q hq => h q (List.mem_cons_of_mem _ hq))
    have := h p List.mem_cons_self
    rw [show p.2 = row2 t from e1] at this
    exact this
theorem row2_ok {n : Nat} {t : Int × Int} (h : TieOk n t) : (∀ z ∈ row2 t, 0 ≤ z ∧ z < n) ∧ (row2 t).Nodup := by
  obtain ⟨a0, a1, b0, b1, ne⟩ := h
  refine ⟨fun z hz => ?_, ?_⟩
  · rcases List.mem_cons.mp hz with rfl | hz
    · exact ⟨a0, a1⟩
    · rw [List.mem_singleton.mp hz]; exact ⟨b0, b1⟩
  · show [t.1, t.2].Nodup
    simp [ne]
def spCTies (K : PySem.W.Frag) : Sp := fun vs H Q _ => ∃ (n : Nat) (z : Addr) (zs : List V) (ps ts : List (Int × Int)), vs = [.int (n : Int), .ref z] ∧ SqA K H z zs ∧ Paired (RowAt K H) zs (ps.map row2) ∧ ps.Perm ts ∧ TiesOk n ts ∧ n ≤ 60 ∧ ts.length ≤ 60 ∧
  ∀ t ys H', H' t = some (.tup ys) → Paired (TieAt K H') ys ts → Same H H' → Q (.ref t) H'
section
variable {P : Program} {w : World} {K : PySem.W.Frag} {mg : Str → Option Value} {base : Heap} {fInt fRow fUn fCnt : Addr}
theorem scCTies : FnScope ["places", "ties", "seen", "tie"] ["places", "ties"] (defScope sCTies) := ⟨rfl, rfl, rfl, by decide +kernel, rfl, by decide +kernel, by decide +kernel⟩
theorem ok_cties {f : Addr} {fd fdR fdU : FuncData} (F : Fun K "checked_ties" "checked_ties" sCTies f fd) (T : TUn K mg fInt fRow fUn fCnt) (FR : Fun K "is_row" "is_row" sIsRow fRow fdR) (bR : Binds K fdR ["value"] [])
    (GU : FnOk P w K mg base CX0 3 fUn fdU ["many", "value"] (spUnlike K)) (FU : Fun K "are_unlike_numbers" "are_unlike_numbers" sUnlike fUn fdU) (bU : Binds K fdU ["many", "value"] []) :
    FnOk P w K mg base CX0 4 f fd ["places", "ties"] (spCTies K) := by
  have GR : FnOk P w K mg base CX0 1 fRow fdR ["value"] (spIsRow K) := ok_isRow FR T.i
  refine F.ok scCTies (fun vs H Q E h => ?_) (fun cdv A outer s H vs Q E hr h => ?_)
  · obtain ⟨n, z, zs, ps, ts, rfl, _⟩ := h
    rfl
  · obtain ⟨n, z, zs, ps, ts, rfl, hz, pz, pm, ok, n60, t60, k⟩ := h
    have hu := hr.units
    have hr1 : Room 1 _ := hr.mono (by decide)
    refine ⟨_, pss_cons (ps_if (pt_not (pt_val (pe_call GR hr1 (by rfl) T.gRow FR.kp bR .nil pass0 (pa_cons (pv 1) pa_nil)))) (pss_one ps_never) pss_nil)
      (pss_cons (ps_set (i := 2) scCTies.nd rfl (Or.inl rfl) (pe_callTy0 cr_set0T (by rfl) T.set (by decide +kernel)))
      (pss_cons (ps_for PassesOwn.never rfl (pi_seqV (pv 1)) (pg_name (i := 3) scCTies.nd rfl (Or.inl rfl))
        (pss_cons (ps_if (PW.pt (pw_or (pt_not (pt_val (pe_call GU hr (by rfl) T.gUn FU.kp bU .nil pass0 (pa_cons (pv 0) (pa_cons (pv 3) pa_nil))))) (pw_or (pt_cmpR op_ne (pe_callB call_len_seq (by rfl) T.len PySem.boot_len (pa_cons (pv 3) pa_nil)) pe_int (nomark _))
            (pw_or1 (pt_cmpR (op_inSetT hu) (pe_callTy call_tuple_any (by rfl) T.i.tuple (by decide +kernel) (pa_cons (pv 3) pa_nil)) (pv 2) (by rfl)))))) (pss_one ps_never) pss_nil)
        (pss_one (ps_expr (pe_saddT hu (pv 2) (pa_cons (pe_callTy call_tuple_any (by rfl) T.i.tuple (by decide +kernel) (pa_cons (pv 3) pa_nil)) pa_nil))))))
      (pss_one (ps_ret (pe_callTy call_tuple_of (by rfl) T.i.tuple (by decide +kernel) (pa_cons (pe_callB (cr_sortedT rfl) (by rfl) T.sorted (by decide +kernel) (pa_cons (pv 2) pa_nil)) pa_nil)))))), ?_⟩
    refine ⟨_, rfl, _, rfl, hz.imp (TyX.same (H' := H)) ty_tup, fun H1 s1 => ⟨_, rfl, iteF ?_⟩⟩
    refine ⟨rfl, fun sn nsn => ?_⟩
    have nsH : H sn = none := s1.free nsn
    have S0 : Same H (upd H1 sn (SetTO P w sn [])) := s1.trans (Same.new nsn)
    have hlen : zs.length = ps.length := by rw [Paired.length pz, List.length_map]
    have pl := pm.length_eq
    have nd : (ps.map row2).Nodup := by
      refine List.Pairwise.map _ (fun a b (h : a ≠ b) e => h (row2_inj e)) ?_
      exact (pm.nodup_iff).mpr ok.1
    refine ⟨z, zs, H, rfl, hz, .of_same S0, fun J G w1 hG => ?_⟩
    refine for_it w1 (fun i σ H' => ∃ (v : Option V) (L : List (Addr × List Int)), σ = [some (.int (n : Int)), some (.ref z), some (.ref sn), v] ∧ H' sn = some (SetTO P w sn L) ∧ (L.map (·.2)).Perm ((ps.map row2).take i) ∧ (∀ p ∈ L, SqT K H' p.1 (p.2.map V.int)) ∧ Same H H')
      ⟨none, [], rfl, upd_same, .refl _, (fun p hp => by cases hp), S0⟩ (fun i σ H' _ ⟨_, _, _, _, _, _, s⟩ => hG H' (.of_same s)) ?_ ?_
    · rintro i x σ H2 H2' hi ⟨v, L, rfl, eS, pL, hL, s2⟩ ⟨rfl, hx⟩
      obtain ⟨r, er, hrow⟩ := par_get pz hx
      obtain ⟨t, et, rfl⟩ : ∃ t, ps[i]? = some t ∧ row2 t = r := by
        rw [List.getElem?_map] at er
        cases e : ps[i]? with
        | none => rw [e] at er; cases er
        | some t => rw [e] at er; exact ⟨t, rfl, Option.some.inj er⟩
      have tok := ok.2.1 t (pm.mem_iff.mp (List.mem_of_getElem? et))
      obtain ⟨b, rfl, hb⟩ := id hrow
      have hb2 := Same.seqA s2 hb
      have lenL : L.length = i := by
        have := pL.length_eq
        rw [List.length_map, List.length_take, List.length_map] at this
        omega
      refine ⟨_, rfl, _, rfl, n, _, row2 t, rfl, ⟨b, rfl, hb2⟩, (row2_ok tok).1, (row2_ok tok).2, (by decide : 2 < 64), fun H3 s3 => ⟨_, rfl, iteF ?_⟩⟩
      have hb3 := Same.seqA s3 hb2
      refine ⟨_, rfl, b, _, rfl, hb3, rfl, _, rfl, iteF ?_⟩
      refine ⟨_, rfl, b, _, rfl, hb3, fun t4 H4 h4 s4 => ?_⟩
      have s34 := s3.trans s4
      have fresh : row2 t ∉ L.map (·.2) := fun z => by
        have z2 := pL.mem_iff.mp z
        obtain ⟨j, hj, ej⟩ := List.getElem_of_mem z2
        rw [List.length_take] at hj
        rw [List.getElem_take] at ej
        have hi2 : (ps.map row2)[i]? = some (row2 t) := er
        obtain ⟨hi3, e3⟩ := List.getElem?_eq_some_iff.mp hi2
        have := (List.getElem_inj nd).mp (ej.trans e3.symm)
        omega
      refine ⟨_, rfl, sn, t4, L, row2 t, rfl, rfl, s34 _ _ eS, (fun p hp => Same.seqT s34 (hL p hp)), h4, _, rfl, ?_⟩
      rw [decide_eq_false fresh]
      refine iteF ?_
      refine ⟨_, rfl, ⟨sn, L, rfl, s34 _ _ eS⟩, _, rfl, b, _, rfl, Same.seqA s4 hb3, fun t5 H5 h5 s5 => ?_⟩
      have s35 := s34.trans s5
      refine ⟨sn, t5, L, row2 t, rfl, rfl, s35 _ _ eS, (fun p hp => Same.seqT s35 (hL p hp)), h5, by omega, fun L' _ c2 => ?_⟩
      have p2 := c2 fresh
      refine ⟨_, L', rfl, upd_same, ?_, fun p hp => ?_, Same.upd_new (s2.trans s35) nsH⟩
      · rw [take_next er]
        have q1 : (L'.map (·.2)).Perm (row2 t :: L.map (·.2)) := p2.map (·.2)
        exact q1.trans ((pL.cons _).trans (List.perm_append_singleton _ _).symm)
      · rcases List.mem_cons.mp (p2.mem_iff.mp hp) with rfl | hp
        · exact seqT_offS h5 (s35 _ _ eS)
        · exact seqT_offS (Same.seqT s35 (hL p hp)) (s35 _ _ eS)
    · rintro σ H2 ⟨v, L, rfl, eS, pL, hL, s2⟩
      rw [hlen, ← List.length_map (f := row2), List.take_length] at pL
      have pLt : (L.map (·.2)).Perm (ts.map row2) := pL.trans (pm.map row2)
      refine ⟨_, rfl, sn, L, 2, 64, rfl, eS, hL, by decide, fun p hp => ?_, fun L' q pm' nd' l64 pw nq => ?_⟩
      · obtain ⟨t, ht, e⟩ := List.mem_map.mp (pLt.mem_iff.mp (List.mem_map.mpr ⟨p, hp, rfl⟩))
        have e' : row2 t = p.2 := e
        obtain ⟨a0, a1, b0, b1, _⟩ := ok.2.1 t ht
        rw [← e']
        refine ⟨rfl, fun z hz => ?_⟩
        rcases List.mem_cons.mp hz with rfl | hz
        · omega
        · rw [List.mem_singleton.mp hz]; omega
      · have eL : L'.map (·.2) = ts.map row2 := ties_uniq n60 ((pm'.map (·.2)).trans pLt) ok (by rw [List.pairwise_map]; exact pw)
        refine ⟨q, _, rfl, .inl ⟨SqL.of upd_same, fun t nt => ?_⟩⟩
        have s3 := (Same.new (o := .lst (L'.map fun q => V.ref q.1)) nq).trans (Same.new (o := .tup (L'.map fun q => V.ref q.1)) nt)
        exact k t _ _ upd_same (ties_of eL fun p hp => Same.seqT s3 (hL p (pm'.mem_iff.mp hp))) (s2.trans s3)
end
end Y
set_option Elab.async false
set_option linter.all false
set_option maxRecDepth 100000
set_option maxHeartbeats 4000000
namespace Y
open PySem L2
/-! ### the rings, checked; a yard made -/
abbrev sMade : Stmt := top 55
def spCRings (K : PySem.W.Frag) : Sp := fun vs H Q _ => ∃ (n : Nat) (z : Addr) (zs : List V) (rs : List (List Int)), vs = [.int (n : Int), .ref z] ∧ SqA K H z zs ∧ Paired (RowAt K H) zs rs ∧ (∀ r ∈ rs, RingOk n r) ∧ n ≤ 60 ∧ rs.length ≤ 100 ∧
  ∀ t ys H', H' t = some (.tup ys) → Paired (RingAt K H') ys rs → Same H H' → Q (.ref t) H'
def spYInit (K : PySem.W.Frag) : Sp := fun vs H Q _ => ∃ (x C dx a e : Addr) (n : Nat) (zs ws : List V) (ps ts : List (Int × Int)) (rs : List (List Int)), vs = [.ref x, .int (n : Int), .ref a, .ref e] ∧ YCls K C ∧ H x = some (.ins C dx []) ∧ 1 ≤ n ∧ n ≤ 60 ∧
  SqA K H a zs ∧ Paired (RowAt K H) zs (ps.map row2) ∧ ps.Perm ts ∧ TiesOk n ts ∧ ts.length ≤ 60 ∧ SqA K H e ws ∧ Paired (RowAt K H) ws rs ∧ (∀ r ∈ rs, RingOk n r) ∧ rs.length ≤ 100 ∧
  ∀ H', YObjC K H' C x n ts rs → (∀ b o, b ≠ x → H b = some o → H' b = some o) → Q .non H'
def spMade (K : PySem.W.Frag) (C : Addr) : Sp := fun vs H Q _ => ∃ (p c q : Addr) (n b : Nat) (ts : List (Int × Int)) (rs : List (List Int)), vs = [.ref p, .ref q] ∧ Pen H p c (b + 130) ∧ YdAt K H q n ts rs ∧ YdOk n ts rs ∧
  ∀ x H', YObjC K H' C x n ts rs → Kp H H' → Pen H' p c b → Q (.ref x) H'
/-- what is no instance stands when an instance changes -/
theorem seqT_offI {K : PySem.W.Frag} {H : Hp} {x a C dx : Addr} {fs : List (Str × V)} {xs : List V} {o : HO} (h : SqT K H a xs) (e : H x = some (.ins C dx fs)) : SqT K (upd H x o) a xs :=
  seqT_offE h e (fun _ z => by cases z) (fun _ _ z => by cases z)
theorem seqL_offI {K : PySem.W.Frag} {H : Hp} {x a C dx : Addr} {fs : List (Str × V)} {xs : List V} {o : HO} (h : SqL K H a xs) (e : H x = some (.ins C dx fs)) : SqL K (upd H x o) a xs := by
  rcases h with (h | ⟨o', h⟩) | h
  · exact .inl (.inl (by rw [upd_ne (ne_of h e (by intro z; cases z))]; exact h))
  · exact .inl (.inr ⟨o', by rw [upd_ne (ne_of h e (by intro z; cases z))]; exact h⟩)
  · exact .inr h
theorem seqA_offI {K : PySem.W.Frag} {H : Hp} {x a C dx : Addr} {fs : List (Str × V)} {xs : List V} {o : HO} (h : SqA K H a xs) (e : H x = some (.ins C dx fs)) : SqA K (upd H x o) a xs :=
  h.imp (fun h => seqL_offI h e) fun h => seqT_offI h e
theorem rows_offI {K : PySem.W.Frag} {H : Hp} {x C dx : Addr} {fs : List (Str × V)} {ys : List V} {rs : List (List Int)} {o : HO} (h : Paired (RowAt K H) ys rs) (e : H x = some (.ins C dx fs)) : Paired (RowAt K (upd H x o)) ys rs :=
  par_map (fun y r ⟨b, e1, hb⟩ => ⟨b, e1, seqA_offI hb e⟩) h
theorem ties_offI {K : PySem.W.Frag} {H : Hp} {x C dx : Addr} {fs : List (Str × V)} {ys : List V} {ts : List (Int × Int)} {o : HO} (h : Paired (TieAt K H) ys ts) (e : H x = some (.ins C dx fs)) : Paired (TieAt K (upd H x o)) ys ts :=
  par_map (fun y r ⟨b, e1, hb⟩ => ⟨b, e1, seqT_offI hb e⟩) h
theorem rings_offI {K : PySem.W.Frag} {H : Hp} {x C dx : Addr} {fs : List (Str × V)} {ys : List V} {rs : List (List Int)} {o : HO} (h : Paired (RingAt K H) ys rs) (e : H x = some (.ins C dx fs)) : Paired (RingAt K (upd H x o)) ys rs :=
  par_map (fun y r ⟨b, e1, hb⟩ => ⟨b, e1, seqT_offI hb e⟩) h
theorem par_perm {R : V → Int × Int → Prop} {ys ys' : List V} (p : ys'.Perm ys) : ∀ {ts : List (Int × Int)}, Paired R ys ts → ∃ ps, ps.Perm ts ∧ Paired R ys' ps := by
  induction p with
  | nil => intro ts h; exact ⟨ts, .refl _, h⟩
  | cons x _ ih =>
    intro ts h
    cases h with
    | cons a t =>
      obtain ⟨ps, p1, h1⟩ := ih t
      exact ⟨_ :: ps, p1.cons _, .cons a h1⟩
  | swap x y l =>
    intro ts h
    cases h with
    | cons a t =>
      cases t with
      | cons b t => exact ⟨_, List.Perm.swap _ _ _, .cons b (.cons a t)⟩
  | trans _ _ ih1 ih2 =>
    intro ts h
    obtain ⟨ps, p1, h1⟩ := ih2 h
    obtain ⟨qs, p2, h2⟩ := ih1 h1
    exact ⟨qs, p2.trans p1, h2⟩
theorem par_rows {K : PySem.W.Frag} {H : Hp} {ys : List V} {ps : List (Int × Int)} (h : Paired (TieAt K H) ys ps) : Paired (TupI K H) ys (ps.map row2) := by
  induction h with
  | nil => exact .nil
  | cons a _ ih => exact .cons a ih
structure TYd (K : PySem.W.Frag) (mg : Str → Option Value) (C fInt fRow fUn fCnt fCT fCR : Addr) : Prop where
  u : TUn K mg fInt fRow fUn fCnt
  gCT : mg "checked_ties" = some (.ref fCT)
  gCR : mg "checked_rings" = some (.ref fCR)
  cls : YCls K C
  gYard : mg "Yard" = some (.ref C)
section
variable {P : Program} {w : World} {K : PySem.W.Frag} {mg : Str → Option Value} {base : Heap} {fInt fRow fUn fCnt fCT fCR fDraw fL : Addr}
theorem scCRings : FnScope ["places", "rings", "index", "ring"] ["places", "rings"] (defScope sCRings) := ⟨rfl, rfl, rfl, by decide +kernel, rfl, by decide +kernel, by decide +kernel⟩
theorem ok_crings {f : Addr} {fd fdR fdU : FuncData} (F : Fun K "checked_rings" "checked_rings" sCRings f fd) (T : TUn K mg fInt fRow fUn fCnt) (FR : Fun K "is_row" "is_row" sIsRow fRow fdR) (bR : Binds K fdR ["value"] [])
    (GU : FnOk P w K mg base CX0 3 fUn fdU ["many", "value"] (spUnlike K)) (FU : Fun K "are_unlike_numbers" "are_unlike_numbers" sUnlike fUn fdU) (bU : Binds K fdU ["many", "value"] []) :
    FnOk P w K mg base CX0 4 f fd ["places", "rings"] (spCRings K) := by
  have GR : FnOk P w K mg base CX0 1 fRow fdR ["value"] (spIsRow K) := ok_isRow FR T.i
  refine F.ok scCRings (fun vs H Q E h => ?_) (fun cdv A outer s H vs Q E hr h => ?_)
  · obtain ⟨n, z, zs, rs, rfl, _⟩ := h
    rfl
  · obtain ⟨n, z, zs, rs, rfl, hz, pz, rok, n60, r100, k⟩ := h
    have hr1 : Room 1 _ := hr.mono (by decide)
    refine ⟨_, pss_cons (ps_if (pt_not (pt_val (pe_call GR hr1 (by rfl) T.gRow FR.kp bR .nil pass0 (pa_cons (pv 1) pa_nil)))) (pss_one ps_never) pss_nil)
      (pss_cons (ps_for PassesOwn.never rfl (pi_enumV (by rfl) T.enum (pv 1)) (pg_tup rfl (pgs_cons (pg_name (i := 2) scCRings.nd rfl (Or.inl rfl)) (pgs_cons (pg_name (i := 3) scCRings.nd rfl (Or.inl rfl)) pgs_nil)))
        (pss_one (ps_if (PW.pt (pw_or (pt_not (pt_val (pe_call GU hr (by rfl) T.gUn FU.kp bU .nil pass0 (pa_cons (pv 0) (pa_cons (pv 3) pa_nil))))) (pw_or1 (pt_cmpR op_lt (pe_callB call_len_seq (by rfl) T.len PySem.boot_len (pa_cons (pv 3) pa_nil)) pe_int (nomark _))))) (pss_one ps_never) pss_nil)))
      (pss_one (ps_ret (pe_callTy call_tuple_of (by rfl) T.i.tuple (by decide +kernel) (pa_cons (pe_lc (own := [("ring", 3)]) (g := gName 3) (tt := tYes) rfl scCRings.nd (pi_seqV (pv 1)) (blkOk_by (N := ["places", "rings", "index", "ring"]) (sc := defScope sCRings) (by decide +kernel))
        (fun _ _ _ _ _ => pg_name (i := 3) scCRings.nd rfl (Or.inl rfl)) (fun _ _ _ _ _ => pts_nil) (fun _ _ _ _ _ => pe_callTy (call_tuple_anyK (K := K) rfl) (by rfl) T.i.tuple (by decide +kernel) (pa_cons (pv 3) pa_nil))) pa_nil))))), ?_⟩
    refine ⟨_, rfl, _, rfl, hz.imp (TyX.same (H' := H)) ty_tup, fun H1 s1 => ⟨_, rfl, iteF ?_⟩⟩
    have hlen : zs.length = rs.length := Paired.length pz
    refine ⟨z, zs, H, rfl, hz, .of_same s1, fun J G w1 hG => ?_⟩
    refine for_it w1 (fun i σ H' => ∃ (v2 v3 : Option V), σ = [some (.int (n : Int)), some (.ref z), v2, v3] ∧ Same H H') ⟨none, none, rfl, s1⟩ (fun i σ H' _ ⟨_, _, _, s⟩ => hG H' (.of_same s)) ?_ ?_
    · rintro i v σ H2 H3 hi ⟨v2, v3, rfl, s2⟩ ⟨T1, u, y, rfl, nT, rfl, e1, e2⟩
      cases Option.some.inj e1
      have s3 := s2.trans (Same.new (o := .tup [.int (i : Nat), y]) nT)
      obtain ⟨r, er, hrow⟩ := par_get pz e2
      obtain ⟨rn, rb, r3, rl⟩ := rok r (List.mem_of_getElem? er)
      obtain ⟨b, rfl, hb⟩ := id hrow
      refine ⟨T1, _, rfl, SqT.of upd_same, rfl, _, _, rfl, _, _, rfl, rfl, ?_⟩
      refine ⟨_, rfl, _, rfl, n, _, r, rfl, ⟨b, rfl, Same.seqA s3 hb⟩, rb, rn, by omega, fun H4 s4 => ⟨_, rfl, iteF ?_⟩⟩
      refine ⟨_, rfl, b, _, rfl, Same.seqA (s3.trans s4) hb, _, _, rfl, rfl, _, rfl, ?_⟩
      refine ifT (fun h => ?_) (fun _ => ⟨_, _, rfl, s3.trans s4⟩)
      have h' : (((r.map V.int).length : Nat) : Int) < 3 := of_decide_eq_true h
      rw [List.length_map] at h'
      omega
    · rintro σ H2 ⟨v2, v3, rfl, s2⟩
      refine ⟨z, zs, H, rfl, hz, .of_same s2, fun J2 G2 w2 hG2 D hD => ?_⟩
      have nDH : H D = none := s2.free hD
      refine lc_it w2 (fun i H' => ∃ ws, H' D = some (.lst ws) ∧ Paired (RingAt K H') ws (rs.take i) ∧ ws.length = i ∧ Same H H') ⟨[], upd_same, .nil, rfl, s2.trans (Same.new hD)⟩ (fun i H' _ ⟨_, _, _, _, s⟩ => hG2 H' (.of_same s)) (fun i x H3 H3' hi h y => ?_) (fun H3 h => ?_)
      · obtain ⟨ws, eD, pw, lw, s3⟩ := h
        obtain ⟨rfl, hx⟩ := y
        obtain ⟨r, er, b, rfl, hb⟩ := par_get pz hx
        refine ⟨rfl, _, rfl, b, _, rfl, Same.seqA s3 hb, fun t H4 ht s4 => ?_⟩
        have eD4 := s4 _ _ eD
        refine ⟨ws, eD4, Nat.lt_of_le_of_lt (by omega : ws.length ≤ 100) (by decide), ws ++ [V.ref t], upd_same, ?_, by rw [List.length_append, lw]; rfl, Same.upd_new (s3.trans s4) nDH⟩
        rw [take_next er]
        exact par_snoc (par_map (fun y r ⟨b, e1, hb⟩ => ⟨b, e1, seqT_off (Same.seqT s4 hb) eD4⟩) pw) ⟨t, rfl, seqT_off ht eD4⟩
      · obtain ⟨ws, eD, pw, lw, s3⟩ := h
        rw [hlen, List.take_length] at pw
        exact ⟨D, _, rfl, .inl ⟨SqL.of eD, fun t nt => k t ws _ upd_same (rings_kp pw (.new nt)) (s3.trans (Same.new nt))⟩⟩
theorem scYInit : FnScope ["self", "places", "ties", "rings"] ["self", "places", "ties", "rings"] (defScope sYInit) := ⟨rfl, rfl, rfl, by decide +kernel, rfl, by decide +kernel, by decide +kernel⟩
theorem ok_yinit {f C : Addr} {fd fdI fdT fdR : FuncData} (F : Fun K "__init__" "Yard.__init__" sYInit f fd) (T : TYd K mg C fInt fRow fUn fCnt fCT fCR) (FI : Fun K "is_integer" "is_integer" sIsInt fInt fdI) (bI : Binds K fdI ["value"] [])
    (GT : FnOk P w K mg base CX0 4 fCT fdT ["places", "ties"] (spCTies K)) (FT : Fun K "checked_ties" "checked_ties" sCTies fCT fdT) (bT : Binds K fdT ["places", "ties"] [])
    (GR : FnOk P w K mg base CX0 4 fCR fdR ["places", "rings"] (spCRings K)) (FR : Fun K "checked_rings" "checked_rings" sCRings fCR fdR) (bR : Binds K fdR ["places", "rings"] []) :
    FnOk P w K mg base CX0 5 f fd ["self", "places", "ties", "rings"] (spYInit K) := by
  have GI : FnOk P w K mg base CX0 1 fInt fdI ["value"] spIsInt := ok_isInt FI T.u.i
  refine F.ok scYInit (fun vs H Q E h => ?_) (fun cdv A outer s H vs Q E hr h => ?_)
  · obtain ⟨x, C, dx, a, e, n, zs, ws, ps, ts, rs, rfl, _⟩ := h
    rfl
  · obtain ⟨x, C, dx, a, e, n, zs, ws, ps, ts, rs, rfl, yc, hx, n1, n60, ha, pa, pm, tok, t60, he, pe, rok, r100, k⟩ := h
    have hr1 : Room 1 _ := hr.mono (by decide)
    refine ⟨_, pss_cons (ps_if (PW.pt (pw_or (pt_not (pt_val (pe_call GI hr1 (by rfl) T.u.gInt FI.kp bI .nil pass0 (pa_cons (pv 1) pa_nil)))) (pw_or1 (pt_cmpR op_lt (pv 1) pe_int (nomark _))))) (pss_one ps_never) pss_nil)
      (pss_cons (ps_fld (pv 0) (pv 1) rfl)
      (pss_cons (ps_fld (pv 0) (pe_call GT hr (by rfl) T.gCT FT.kp bT .nil pass0 (pa_cons (pv 1) (pa_cons (pv 2) pa_nil))) rfl)
      (pss_one (ps_fld (pv 0) (pe_call GR hr (by rfl) T.gCR FR.kp bR .nil pass0 (pa_cons (pv 1) (pa_cons (pv 3) pa_nil))) rfl)))), ?_⟩
    refine ⟨_, rfl, (n : Int), rfl, _, rfl, iteF ?_⟩
    refine ⟨_, rfl, _, _, rfl, rfl, _, rfl, ?_⟩
    refine ifT (fun h => ?_) (fun _ => ?_)
    · have h' : (n : Int) < 1 := of_decide_eq_true h
      omega
    refine ⟨_, rfl, _, rfl, x, C, dx, [], rfl, hx, yc.c, yc.p, (by show 0 < 1000; decide), ?_⟩
    have hx1 : (upd H x (.ins C dx (putF "places" (.int (n : Int)) []))) x = some (.ins C dx (putF "places" (.int (n : Int)) [])) := upd_same
    refine ⟨_, rfl, _, rfl, n, a, zs, ps, ts, rfl, seqA_offI ha hx, rows_offI pa hx, pm, tok, n60, t60, fun t ys H2 et pt s2 => ?_⟩
    have hx2 := s2 _ _ hx1
    refine ⟨_, rfl, x, C, dx, _, rfl, hx2, yc.c, yc.t, (by show 1 < 1000; decide), ?_⟩
    have hx3 : (upd H2 x (.ins C dx (putF "ties" (.ref t) (putF "places" (.int (n : Int)) [])))) x = some (.ins C dx (putF "ties" (.ref t) (putF "places" (.int (n : Int)) []))) := upd_same
    refine ⟨_, rfl, _, rfl, n, e, ws, rs, rfl, seqA_offI (Same.seqA s2 (seqA_offI he hx)) hx2, rows_offI (rows_kp (rows_offI pe hx) (.of_same s2)) hx2, rok, n60, r100, fun u vs' H4 eu pu s4 => ?_⟩
    have hx4 := s4 _ _ hx3
    refine ⟨_, rfl, x, C, dx, _, rfl, hx4, yc.c, yc.r, (by show 2 < 1000; decide), ?_⟩
    refine k _ ⟨dx, t, u, _, ys, vs', upd_same, yc, ?_, ?_, ?_, seqT_offI (Same.seqT s4 (seqT_offI (SqT.of et) hx2)) hx4, ties_offI (ties_kp (ties_offI pt hx2) (.of_same s4)) hx4, seqT_offI (SqT.of eu) hx4, rings_offI pu hx4⟩ fun b o nb e0 => ?_
    · rw [lookup_putF, if_neg (by decide +kernel), lookup_putF, if_neg (by decide +kernel), lookup_putF, if_pos rfl]
    · rw [lookup_putF, if_neg (by decide +kernel), lookup_putF, if_pos rfl]
    · rw [lookup_putF, if_pos rfl]
    · rw [upd_ne nb]
      refine s4 _ _ ?_
      rw [upd_ne nb]
      refine s2 _ _ ?_
      rw [upd_ne nb]
      exact e0
theorem scMade : FnScope ["_law_pen_here", "_law_yard"] ["_law_pen_here", "_law_yard"] (defScope sMade) := ⟨rfl, rfl, rfl, by decide +kernel, rfl, by decide +kernel, by decide +kernel⟩
theorem ok_made {f C fI fS : Addr} {fd fdI fdS fdL fdD : FuncData} (F : Fun K "_law_made_yard" "_law_made_yard" sMade f fd) (T : TYd K mg C fInt fRow fUn fCnt fCT fCR) (TL : TLs K mg fDraw fL) (gS : mg "_law_shuffled" = some (.ref fS)) (M : Mk K C fI)
    (GY : FnOk P w K mg base CX0 5 fI fdI ["self", "places", "ties", "rings"] (spYInit K)) (bY : Binds K fdI ["self", "places", "ties", "rings"] [])
    (FS : Fun K "_law_shuffled" "_law_shuffled" sShuf fS fdS) (bS : Binds K fdS ["_law_pen_here", "_law_some"] []) (FL : Fun K "_law_listed" "_law_listed" sListed fL fdL) (bL : Binds K fdL ["_law_pen_here", "_law_some"] [])
    (FD : Fun K "_law_draw" "_law_draw" sDraw fDraw fdD) (bD : Binds K fdD ["_law_pen_here", "_law_many"] []) :
    FnOk P w K mg base CX0 7 f fd ["_law_pen_here", "_law_yard"] (spMade K C) := by
  have GS : FnOk P w K mg base CX0 2 fS fdS ["_law_pen_here", "_law_some"] (spShuf K) := ok_shuf FS TL.g FD bD
  have GL : FnOk P w K mg base CX0 3 fL fdL ["_law_pen_here", "_law_some"] (spL2 K) := ok_l2 FL bL TL FD bD
  refine F.ok scMade (fun vs H Q E h => ?_) (fun cdv A outer s H vs Q E hr h => ?_)
  · obtain ⟨p, c, q, n, b, ts, rs, rfl, _⟩ := h
    rfl
  · obtain ⟨p, c, q, n, b, ts, rs, rfl, hP, ⟨a, e, ys, zs, hq, ha, pa, he, pe⟩, ⟨n1, n12, tok, tl, rok, rl⟩, k⟩ := h
    refine ⟨_, pss_one (ps_ret (pe_make M GY hr (by rfl) T.gYard bY .nil pass0 (pa_cons (pe_ix ix_tup (pv 1) pe_int (fun _ _ => rfl))
      (pa_cons (pe_call GL (hr.mono (by decide)) (by rfl) TL.gL FL.kp bL .nil pass0 (pa_cons (pv 0) (pa_cons (pe_callTy call_tuple_of (by rfl) TL.g.tuple (by decide +kernel) (pa_cons (pe_call GS (hr.mono (by decide)) (by rfl) gS FS.kp bS .nil pass0 (pa_cons (pv 0) (pa_cons (pe_ix ix_tup (pv 1) pe_int (fun _ _ => rfl)) pa_nil))) pa_nil)) pa_nil)))
      (pa_cons (pe_call GL (hr.mono (by decide)) (by rfl) TL.gL FL.kp bL .nil pass0 (pa_cons (pv 0) (pa_cons (pe_ix ix_tup (pv 1) pe_int (fun _ _ => rfl)) pa_nil))) pa_nil))))), ?_⟩
    have yl : ys.length = ts.length := Paired.length pa
    refine ⟨_, rfl, q, _, 0, _, rfl, rfl, hq, atI_nat (j := 0) rfl, ?_⟩
    refine ⟨_, rfl, _, rfl, _, rfl, q, _, 1, _, rfl, rfl, hq, atI_nat (j := 1) rfl, ?_⟩
    refine ⟨p, c, a, ys, b + 70, rfl, hP.less (by omega), .inr ha, by omega, fun s1 ys1 H1 pm e1 kp1 P1 => ?_⟩
    refine ⟨s1, _, rfl, .inl ⟨SqL.of e1, fun t nt => ?_⟩⟩
    obtain ⟨ps, pp, hp⟩ := par_perm pm pa
    have pl := pp.length_eq
    have kp2 := kp1.trans (.new (o := .tup ys1) nt)
    refine ⟨p, c, t, ys1, ps.map row2, b + 5, rfl, (P1.same (Same.new nt)).less (by rw [List.length_map]; omega), SqT.of upd_same, par_rows (ties_kp hp kp2), by rw [List.length_map]; omega, fun r hr => ?_, fun q2 zs2 H3 hz2 pz2 kp3 P3 => ?_⟩
    · obtain ⟨u, _, rfl⟩ := List.mem_map.mp hr
      exact ⟨by show 2 ≤ 100; decide, by intro z; cases z⟩
    have kpA := kp2.trans kp3
    refine ⟨_, rfl, _, rfl, q, _, 2, _, rfl, rfl, kpA.seqT hq, atI_nat (j := 2) rfl, ?_⟩
    refine ⟨p, c, e, zs, rs, b, rfl, P3.less (by omega), kpA.seqT he, rings_kp pe kpA, by omega, fun r hr => ?_, fun q4 zs4 H4 hz4 pz4 kp4 P4 => ?_⟩
    · obtain ⟨_, _, r3, rl'⟩ := rok r hr
      exact ⟨by omega, fun z => by rw [z] at r3; exact absurd r3 (by decide)⟩
    intro x dx nx ndx ne
    have sm : Same H4 (upd (upd H4 dx (.own x)) x (.ins C dx [])) := (Same.new ndx).trans (Same.new (by rw [upd_ne (Ne.symm ne)]; exact nx))
    refine ⟨x, C, dx, q2, q4, n, zs2, zs4, ps, ts, rs, rfl, T.cls, upd_same, n1, by omega, Same.seqA sm (kp4.seq hz2), rows_kp (rows_kp pz2 kp4) (.of_same sm), pp, tok, tl, Same.seqA sm hz4, rows_kp pz4 (.of_same sm), rok, by omega, fun H5 yo keep => ⟨rfl, ?_⟩⟩
    have s5 : Same H4 H5 := fun b' o e' => keep b' o (ne_of_none e' nx) (sm b' o e')
    exact k x H5 yo ((kpA.trans kp4).trans (.of_same s5)) (P4.same s5)
end
end Y
set_option Elab.async false
set_option linter.all false
set_option maxRecDepth 100000
set_option maxHeartbeats 4000000
namespace L2
open PySem PySem.Spec PyProof.Rows
/-- an item of a list or a tuple, whichever it is -/
def rIxA (K : PySem.W.Frag) : R2 := fun x y H Q => ∃ (p : Addr) (xs : List V) (i : Int) (z : V), x = .ref p ∧ y = .int i ∧ (SqL K H p xs ∨ SqT K H p xs) ∧ atI xs i = some z ∧ Q z H
theorem ix_any {X : Cx} : IxR X (rIxA X.K) := by
  intro value slice pins s σ H x y v u Q I rx ry h hs
  obtain ⟨p, xs, i, z, e1, e2, hq, he, q⟩ := h
  rcases hq with hq | hq
  · exact ix_list value slice pins s σ H x y v u Q I rx ry ⟨p, xs, i, z, e1, e2, hq, he, q⟩ hs
  · exact ix_tup value slice pins s σ H x y v u Q I rx ry ⟨p, xs, i, z, e1, e2, hq, he, q⟩ hs
end L2
namespace Y
open PySem L2
abbrev sIsStand : Stmt := top 999
abbrev sCanBe : Stmt := top 21
abbrev sBehind : Stmt := top 22
abbrev sBehindAll : Stmt := top 23
abbrev sPlayed : Stmt := top 999
/-! ### a turn, as the program makes it -/
def prevI (r : List Int) (j : Nat) : Nat := (j + (r.length - 1)) % r.length
def turnP (r st : List Int) (m : Nat) : List Int := (List.range m).foldl (fun acc j => acc.set (pl r j) (st.getD (pl r (prevI r j)) 0)) st
theorem turnP_succ (r st : List Int) (m : Nat) : turnP r st (m + 1) = (turnP r st m).set (pl r m) (st.getD (pl r (prevI r m)) 0) := by
  unfold turnP
  rw [List.range_succ, List.foldl_append]
  rfl
theorem turnP_len (r st : List Int) : ∀ m, (turnP r st m).length = st.length
  | 0 => rfl
  | m + 1 => by rw [turnP_succ, List.length_set, turnP_len r st m]
theorem turnP_at {n : Nat} {r st : List Int} (ok : RingOk n r) (hs : st.length = n) : ∀ m, m ≤ r.length → (∀ j, j < m → (turnP r st m).getD (pl r j) 0 = st.getD (pl r (prevI r j)) 0) ∧ (∀ p, (∀ j, j < m → pl r j ≠ p) → (turnP r st m).getD p 0 = st.getD p 0)
  | 0, _ => ⟨fun j h => absurd h (Nat.not_lt_zero _), fun p _ => rfl⟩
  | m + 1, hm => by
    obtain ⟨h1, h2⟩ := turnP_at ok hs m (by omega)
    rw [turnP_succ]
    refine ⟨fun j hj => ?_, fun p hp => ?_⟩
    · by_cases c : j = m
      · subst c
        exact getD_set_eq (by rw [turnP_len, hs]; exact pl_lt ok (by omega))
      · rw [getD_set_ne (fun z => c (pl_inj ok (by omega) (by omega) z).symm)]
        exact h1 j (by omega)
    · rw [getD_set_ne (hp m (by omega))]
      exact h2 p fun j hj => hp j (by omega)
theorem turnP_eq {n : Nat} {r st : List Int} (ok : RingOk n r) (hs : st.length = n) : turnP r st r.length = turnTo r st r.length := by
  refine List.ext_getElem? fun p => ?_
  by_cases hp : p < st.length
  · have hp1 : p < (turnP r st r.length).length := by rw [turnP_len]; exact hp
    have hp2 : p < (turnTo r st r.length).length := by rw [turnTo_len]; exact hp
    have g : (turnP r st r.length).getD p 0 = (turnTo r st r.length).getD p 0 := by
      by_cases c : ∃ i, i < r.length ∧ pl r i = p
      · obtain ⟨i, hi, rfl⟩ := c
        rw [(turnP_at ok hs r.length (Nat.le_refl _)).1 i hi]
        exact (turn1_ring ok hs hi).symm
      · rw [(turnP_at ok hs r.length (Nat.le_refl _)).2 p fun j hj z => c ⟨j, hj, z⟩]
        exact (turn1_off ok hs fun i hi z => c ⟨i, hi, z⟩).symm
    rw [List.getD_eq_getElem?_getD, List.getD_eq_getElem?_getD, List.getElem?_eq_getElem hp1, List.getElem?_eq_getElem hp2] at g
    rw [List.getElem?_eq_getElem hp1, List.getElem?_eq_getElem hp2]
    exact congrArg some g
  · rw [List.getElem?_eq_none (by rw [turnP_len]; omega), List.getElem?_eq_none (by rw [turnTo_len]; omega)]
theorem prevI_lt {r : List Int} {j : Nat} (h : j < r.length) : prevI r j < r.length := Nat.mod_lt _ (by omega)
theorem atI_prev {r : List Int} {j : Nat} (h : j < r.length) : atI (r.map V.int) ((j : Int) - 1) = some (.int (r.getD (prevI r j) 0)) := by
  have hl : (r.map V.int).length = r.length := List.length_map _
  by_cases c : j = 0
  · subst c
    have e : prevI r 0 = r.length - 1 := by unfold prevI; rw [Nat.zero_add, Nat.mod_eq_of_lt (by omega)]
    unfold atI ixN
    rw [hl, if_neg (by omega), if_pos (by omega), e]
    show (r.map V.int)[((((0 : Nat) : Int) - 1) + (r.length : Int)).toNat]? = _
    rw [show ((((0 : Nat) : Int) - 1) + (r.length : Int)).toNat = r.length - 1 by omega]
    exact getD_at (by omega)
  · have e : prevI r j = j - 1 := by
      unfold prevI
      rw [show j + (r.length - 1) = (j - 1) + r.length by omega, Nat.add_mod_right, Nat.mod_eq_of_lt (by omega)]
    rw [e, show ((j : Int) - 1) = ((j - 1 : Nat) : Int) by omega]
    exact atI_nat (getD_at (by omega))
/-! ### promises -/
def spIsStand (K : PySem.W.Frag) : Sp := fun vs H Q _ => ∃ (x : Addr) (y : V) (n : Nat) (ts : List (Int × Int)) (rs : List (List Int)) (st : List Int), vs = [.ref x, y] ∧ YObj K H x n ts rs ∧ RowAt K H y st ∧ st.length = n ∧ n ≤ 1000 ∧ (∀ z ∈ st, 0 ≤ z) ∧ ∀ H', Same H H' → Q (.bl true) H'
def spCanBe (K : PySem.W.Frag) : Sp := fun vs H Q _ => ∃ (s : Addr) (y : V) (n : Nat) (ts : List (Int × Int)) (rs : List (List Int)) (st : List Int) (m : Mv), vs = [.ref s, y] ∧ SqA K H s (st.map V.int) ∧ st.length = n ∧ MvAt K H y m ∧ CanMv n ts rs st m ∧ Q (.bl true) H
def spBehind (K : PySem.W.Frag) : Sp := fun vs H Q _ => ∃ (x s : Addr) (y : V) (n : Nat) (ts : List (Int × Int)) (rs : List (List Int)) (st : List Int) (m : Mv), vs = [.ref x, .ref s, y] ∧ YObj K H x n ts rs ∧ n ≤ 1000 ∧ (∀ r ∈ rs, RingOk n r) ∧ SqA K H s (st.map V.int) ∧ st.length = n ∧ MvAt K H y m ∧ CanMv n ts rs st m ∧
  ∀ l H', H' l = some (.lst ((stepMv rs st m).map V.int)) → Same H H' → Q (.ref l) H'
theorem can_in {n : Nat} {ts : List (Int × Int)} {rs : List (List Int)} {st : List Int} {m : Mv} (h : CanMv n ts rs st m) : MvIn ts rs m := by
  cases m with
  | slide a b => exact h.1
  | turn k => exact h
theorem can_get {n : Nat} {ts : List (Int × Int)} {rs : List (List Int)} {m : Mv} : ∀ {ms : List Mv} {st : List Int} {i : Nat}, CanAll n ts rs st ms → ms[i]? = some m → CanMv n ts rs (playMvs rs st (ms.take i)) m
  | [], _, _, _, h => by simp at h
  | a :: l, st, 0, c, h => by cases Option.some.inj h; exact c.1
  | a :: l, st, i + 1, c, h => can_get (ms := l) (st := stepMv rs st a) (i := i) c.2 h
structure TPl (K : PySem.W.Frag) (mg : Str → Option Value) (fInt fRow fIsS fMove fCan fBeh fAll fCnt : Addr) : Prop where
  i : TI0 mg
  len : mg "len" = none
  all : mg "all" = none
  enum : mg "enumerate" = none
  gInt : mg "is_integer" = some (.ref fInt)
  gRow : mg "is_row" = some (.ref fRow)
  gIsS : mg "is_stand_row" = some (.ref fIsS)
  gMove : mg "is_move" = some (.ref fMove)
  gCan : mg "can_be_made" = some (.ref fCan)
  gBeh : mg "behind_move" = some (.ref fBeh)
  gAll : mg "behind_all" = some (.ref fAll)
  gCnt : mg "is_count" = some (.ref fCnt)
section
variable {P : Program} {w : World} {K : PySem.W.Frag} {mg : Str → Option Value} {base : Heap} {fInt fRow fIsS fMove fCan fBeh fAll fCnt : Addr}
theorem scCanBe : FnScope ["stand", "move"] ["stand", "move"] (defScope sCanBe) := ⟨rfl, rfl, rfl, by decide +kernel, rfl, by decide +kernel, by decide +kernel⟩
theorem ok_canBe {f : Addr} {fd : FuncData} (F : Fun K "can_be_made" "can_be_made" sCanBe f fd) : FnOk P w K mg base CX0 1 f fd ["stand", "move"] (spCanBe K) := by
  refine F.ok scCanBe (fun vs H Q E h => ?_) (fun cdv A outer s H vs Q E hr h => ?_)
  · obtain ⟨s, y, n, ts, rs, st, m, rfl, _⟩ := h
    rfl
  · obtain ⟨s, y, n, ts, rs, st, m, rfl, hs, hst, ⟨b, rfl, hm⟩, can, k⟩ := h
    refine ⟨_, pss_one (ps_ret (pe_or (pe_cmpR op_eq (pe_ix ix_tup (pv 1) pe_int (fun _ _ => rfl)) pe_str (nomark _)) (pe_one (pe_and (pe_cmpR op_ne (pe_ix ix_any (pv 0) (pe_ix ix_tup (pv 1) pe_int (fun _ _ => rfl)) (fun _ _ => rfl)) pe_int (nomark _)) (pe_one (pe_cmpR op_eq (pe_ix ix_any (pv 0) (pe_ix ix_tup (pv 1) pe_int (fun _ _ => rfl)) (fun _ _ => rfl)) pe_int (nomark _))))))), ?_⟩
    cases m with
    | turn kk =>
      refine ⟨_, rfl, b, _, 0, _, rfl, rfl, hm, atI_nat (j := 0) rfl, rfl, true, rfl, iteT ?_⟩
      exact k
    | slide u v =>
      obtain ⟨_, ⟨a0, a1, b0, b1, _⟩, gu, gv⟩ := can
      rw [← hst] at a1 b1
      refine ⟨_, rfl, b, _, 0, _, rfl, rfl, hm, atI_nat (j := 0) rfl, rfl, false, rfl, iteF ?_⟩
      refine ⟨_, rfl, _, rfl, b, _, 1, _, rfl, rfl, hm, atI_nat (j := 1) rfl, s, _, u, _, rfl, rfl, hs, atI_st a0 a1, rfl, _, rfl, ?_⟩
      refine ifT (fun _ => ?_) (fun h => ?_)
      · refine ⟨_, rfl, _, rfl, b, _, 2, _, rfl, rfl, hm, atI_nat (j := 2) rfl, s, _, v, _, rfl, rfl, hs, atI_st b0 b1, rfl, ?_⟩
        rw [gv, decide_eq_true rfl]
        exact k
      · have ne : ¬ V.int (gAt st u) = V.int 0 := fun z => by injection z with z; omega
        rw [decide_eq_false ne] at h
        cases h
theorem scBehind : FnScope ["yard", "stand", "move", "behind", "ring", "index", "place"] ["yard", "stand", "move"] (defScope sBehind) := ⟨rfl, rfl, rfl, by decide +kernel, rfl, by decide +kernel, by decide +kernel⟩
/-- what a move's making asks of built-in names -/
structure TBh (mg : Str → Option Value) : Prop where
  i : TI0 mg
  enum : mg "enumerate" = none
theorem ok_behind {f : Addr} {fd : FuncData} (F : Fun K "behind_move" "behind_move" sBehind f fd) (T : TBh mg) : FnOk P w K mg base CX0 1 f fd ["yard", "stand", "move"] (spBehind K) := by
  refine F.ok scBehind (fun vs H Q E h => ?_) (fun cdv A outer s H vs Q E hr h => ?_)
  · obtain ⟨x, s, y, n, ts, rs, st, m, rfl, _⟩ := h
    rfl
  · obtain ⟨x, s, y, n, ts, rs, st, m, rfl, hy, n1000, rok, hs, hst, ⟨b, rfl, hm⟩, can, k⟩ := h
    refine ⟨_, pss_cons (ps_set (i := 3) scBehind.nd rfl (Or.inl rfl) (pe_callTy call_list_of (by rfl) T.i.list (by decide +kernel) (pa_cons (pv 1) pa_nil)))
      (pss_cons (ps_if (pt_cmpR op_eq (pe_ix ix_tup (pv 2) pe_int (fun _ _ => rfl)) pe_str (nomark _))
        (pss_cons (ps_asg pe_int (pg_sub (pv 3) (pe_ix ix_tup (pv 2) pe_int (fun _ _ => rfl)) set_list))
        (pss_cons (ps_asg (pe_ix ix_any (pv 1) (pe_ix ix_tup (pv 2) pe_int (fun _ _ => rfl)) (fun _ _ => rfl)) (pg_sub (pv 3) (pe_ix ix_tup (pv 2) pe_int (fun _ _ => rfl)) set_list))
        (pss_one (ps_ret (pv 3))))) pss_nil)
      (pss_cons (ps_set (i := 4) scBehind.nd rfl (Or.inl rfl) (pe_ix ix_tup (pe_fld (pv 0) rfl) (pe_ix ix_tup (pv 2) pe_int (fun _ _ => rfl)) (fun _ _ => rfl)))
      (pss_cons (ps_for PassesOwn.never rfl (pi_enumV (by rfl) T.enum (pv 4)) (pg_tup rfl (pgs_cons (pg_name (i := 5) scBehind.nd rfl (Or.inl rfl)) (pgs_cons (pg_name (i := 6) scBehind.nd rfl (Or.inl rfl)) pgs_nil)))
        (pss_one (ps_asg (pe_ix ix_any (pv 1) (pe_ix ix_tup (pv 4) (pe_op op_sub (pv 5) pe_int) (fun _ _ => rfl)) (fun _ _ => rfl)) (pg_sub (pv 3) (pv 6) set_list))))
      (pss_one (ps_ret (pv 3)))))), ?_⟩
    obtain ⟨C, dx, a, e, fs, tys, zs, hx, yc, lp, lt, lr, ha, pa, he, pe⟩ := id hy
    refine ⟨_, rfl, s, _, rfl, hs, fun g ng => ?_⟩
    have s1 := Same.new (o := .lst (st.map V.int)) ng
    have hm1 := Same.seqT s1 hm
    have hs1 := Same.seqA s1 hs
    cases m with
    | slide u v =>
      obtain ⟨_, ⟨a0, a1, b0, b1, _⟩, gu, gv⟩ := can
      have la : u.toNat < st.length := by have : u < n := a1; have : (0 : Int) ≤ u := a0; omega
      have lb : v.toNat < st.length := by have : v < n := b1; have : (0 : Int) ≤ v := b0; omega
      refine ⟨_, rfl, b, _, 0, _, rfl, rfl, hm1, atI_nat (j := 0) rfl, rfl, _, rfl, iteT ?_⟩
      refine ⟨_, rfl, _, rfl, b, _, 1, _, rfl, rfl, hm1, atI_nat (j := 1) rfl, g, _, u, u.toNat, rfl, rfl, upd_same, by rw [List.length_map]; exact ixN_ok a0 (by rw [hst]; exact a1), ?_⟩
      rw [upd_upd]
      have s2 := Same.new (o := .lst ((st.map V.int).set u.toNat (.int 0))) ng
      have hm2 := Same.seqT s2 hm
      refine ⟨_, rfl, _, rfl, b, _, 1, _, rfl, rfl, hm2, atI_nat (j := 1) rfl, s, _, u, _, rfl, rfl, Same.seqA s2 hs, atI_st a0 (by rw [hst]; exact a1), ?_⟩
      refine ⟨_, rfl, _, rfl, b, _, 2, _, rfl, rfl, hm2, atI_nat (j := 2) rfl, g, _, v, v.toNat, rfl, rfl, upd_same, by rw [List.length_set, List.length_map]; exact ixN_ok b0 (by rw [hst]; exact b1), ?_⟩
      rw [upd_upd, map_set, map_set]
      exact ⟨_, rfl, k g _ upd_same (Same.new ng)⟩
    | turn kk =>
      obtain ⟨k0', k1'⟩ : 0 ≤ kk ∧ kk < rs.length := can
      obtain ⟨g2, rr, eg, erg, hg, hlg⟩ := ring_at pe k0' k1'
      have ok := rok rr (List.mem_of_getElem? erg)
      refine ⟨_, rfl, b, _, 0, _, rfl, rfl, hm1, atI_nat (j := 0) rfl, rfl, _, rfl, iteF ?_⟩
      refine ⟨_, rfl, x, C, dx, fs, _, rfl, s1 _ _ hx, yc.c, yc.r, lr, ?_⟩
      refine ⟨_, rfl, b, _, 1, _, rfl, rfl, hm1, atI_nat (j := 1) rfl, ?_⟩
      refine ⟨e, zs, kk, _, rfl, rfl, Same.seqT s1 he, atI_int k0' eg, ?_⟩
      refine ⟨g2, rr.map V.int, H, rfl, .inr hg, .of_same s1, fun J G w1 hG => ?_⟩
      refine for_it w1 (fun i σ H' => ∃ (v5 v6 : Option V), σ = [some (.ref x), some (.ref s), some (.ref b), some (.ref g), some (.ref g2), v5, v6] ∧ H' g = some (.lst ((turnP rr st i).map V.int)) ∧ Same H H')
        ⟨none, none, rfl, upd_same, s1⟩ (fun i σ H' _ ⟨_, _, _, _, s⟩ => hG H' (.of_same s)) ?_ ?_
      · rintro i v σ H2 H3 hi ⟨v5, v6, rfl, eg2, s2⟩ ⟨T1, u, y, rfl, nT, rfl, e1, e2⟩
        cases Option.some.inj e1
        rw [List.length_map] at hi
        have hy2 := e2.symm.trans (getD_at hi)
        cases Option.some.inj hy2
        have s3 := s2.trans (Same.new (o := .tup [.int (i : Nat), .int (rr.getD i 0)]) nT)
        have eg3 := Same.new nT (o := .tup [.int (i : Nat), .int (rr.getD i 0)]) _ _ eg2
        have b1 := ok.2.1 _ (getD_mem hi)
        have b2 := ok.2.1 _ (getD_mem (prevI_lt hi))
        refine ⟨T1, _, rfl, SqT.of upd_same, rfl, _, _, rfl, _, _, rfl, rfl, ?_⟩
        refine ⟨_, rfl, _, rfl, _, rfl, _, _, rfl, rfl, g2, _, _, _, rfl, rfl, Same.seqT s3 hg, atI_prev hi, ?_⟩
        refine ⟨s, _, _, _, rfl, rfl, Same.seqA s3 hs, atI_st b2.1 (by rw [hst]; exact b2.2), ?_⟩
        refine ⟨_, rfl, _, rfl, g, _, _, (rr.getD i 0).toNat, rfl, rfl, eg3, by rw [List.length_map, turnP_len, hst]; exact ixN_ok b1.1 b1.2, ?_⟩
        refine ⟨_, _, rfl, ?_, Same.upd_new s3 ng⟩
        rw [upd_same, map_set, turnP_succ]
        rfl
      · rintro σ H2 ⟨v5, v6, rfl, eg2, s2⟩
        rw [List.length_map, turnP_eq ok hst] at eg2
        refine ⟨_, rfl, k g H2 ?_ s2⟩
        rw [eg2]
        show some (HO.lst ((turnTo rr st rr.length).map V.int)) = some (HO.lst ((turnTo (rs.getD kk.toNat []) st (rs.getD kk.toNat []).length).map V.int))
        rw [List.getD_eq_getElem?_getD, erg]
        rfl
end
end Y
set_option Elab.async false
set_option linter.all false
set_option maxRecDepth 100000
set_option maxHeartbeats 4000000
namespace Y
open PySem L2
/-! ### moves and ints as data -/
def mvD : Mv → PyData
  | .slide a b => .tuple [.str "slide", .int a, .int b]
  | .turn k => .tuple [.str "turn", .int k]
theorem mv_dp {K : PySem.W.Frag} {H : Hp} {y : V} {m : Mv} (h : MvAt K H y m) : Dp K H y (mvD m) := by
  obtain ⟨b, rfl, h⟩ := h
  cases m with
  | slide u v => exact .tup h (.cons (.str _) (.cons (.int _) (.cons (.int _) .nil)))
  | turn k => exact .tup h (.cons (.str _) (.cons (.int _) .nil))
theorem mvs_dp {K : PySem.W.Frag} {H : Hp} {ys : List V} {ms : List Mv} (h : MvsAt K H ys ms) : DpAll K H ys (ms.map mvD) := by
  induction h with
  | nil => exact .nil
  | cons a _ ih => exact .cons (mv_dp a) ih
theorem mv_self (m : Mv) : PyData.eqv (mvD m) (mvD m) = true := by cases m <;> simp [mvD, PyData.eqv, PyData.eqvAll]
theorem mvs_self : ∀ ms : List Mv, PyData.eqvAll (ms.map mvD) (ms.map mvD) = true
  | [] => rfl
  | m :: ms => by
    rw [List.map_cons]
    show (PyData.eqv (mvD m) (mvD m) && PyData.eqvAll (ms.map mvD) (ms.map mvD)) = true
    rw [mv_self, mvs_self ms]
    rfl
theorem mv_lay (m : Mv) : (mvD m).canLay0 = true := by cases m <;> simp [mvD, PyData.canLay0, PyData.canLayAll0] <;> decide +kernel
theorem mvs_lay : ∀ ms : List Mv, PyData.canLayAll0 (ms.map mvD) = true
  | [] => rfl
  | m :: ms => by
    rw [List.map_cons]
    show ((mvD m).canLay0 && PyData.canLayAll0 (ms.map mvD)) = true
    rw [mv_lay, mvs_lay ms]
    rfl
theorem mv_depth (m : Mv) : (mvD m).depth ≤ 10 := by cases m <;> simp [mvD, PyData.depth, PyData.depthAll]
theorem mvs_depth : ∀ ms : List Mv, PyData.depthAll (ms.map mvD) ≤ 10
  | [] => Nat.zero_le _
  | m :: ms => by
    rw [List.map_cons]
    exact Nat.max_le.mpr ⟨mv_depth m, mvs_depth ms⟩
theorem mvs_shaped (ms : List Mv) : SeqAt.shaped (.tuple (ms.map mvD)) = true := by
  unfold SeqAt.shaped
  have h1 : (PyData.tuple (ms.map mvD)).canLay0 = true := mvs_lay ms
  have h2 : (PyData.tuple (ms.map mvD)).depth ≤ 64 := Nat.le_trans (Nat.succ_le_succ (mvs_depth ms)) (by decide)
  rw [h1, decide_eq_true h2]
  rfl
theorem mvs_shapedL (ms : List Mv) : SeqAt.shaped (.list (ms.map mvD)) = true := by
  unfold SeqAt.shaped
  have h1 : (PyData.list (ms.map mvD)).canLay0 = true := mvs_lay ms
  have h2 : (PyData.list (ms.map mvD)).depth ≤ 64 := Nat.le_trans (Nat.succ_le_succ (mvs_depth ms)) (by decide)
  rw [h1, decide_eq_true h2]
  rfl
/-- what taking back tells, as data -/
def tkD : Option (List Mv) → PyData
  | none => .none
  | some bs => .tuple (bs.map mvD)
theorem tk_dp {K : PySem.W.Frag} {H : Hp} {v : V} {o : Option (List Mv)} (h : TkAt K H v o) : Dp K H v (tkD o) := by
  cases o with
  | none => rw [show v = .non from h]; exact .non
  | some bs =>
    obtain ⟨t, ws, rfl, h1, h2⟩ := h
    exact .tup h1 (mvs_dp h2)
theorem tk_shaped (o : Option (List Mv)) : SeqAt.shaped (tkD o) = true := by
  cases o with
  | none => rfl
  | some bs => exact mvs_shaped bs
theorem tk_self (o : Option (List Mv)) : PyData.eqv (tkD o) (tkD o) = true := by
  cases o with
  | none => rfl
  | some bs => exact mvs_self bs
/-! ints -/
theorem ints_dp {K : PySem.W.Frag} {H : Hp} : ∀ ns : List Int, DpAll K H (ns.map V.int) (ns.map PyData.int)
  | [] => .nil
  | n :: ns => .cons (.int n) (ints_dp ns)
theorem ints_self : ∀ ns : List Int, PyData.eqvAll (ns.map PyData.int) (ns.map PyData.int) = true
  | [] => rfl
  | n :: ns => by
    show ((n == n) && PyData.eqvAll (ns.map PyData.int) (ns.map PyData.int)) = true
    rw [ints_self ns, beq_self_eq_true]
    rfl
theorem ints_shaped (ns : List Int) : SeqAt.shaped (.tuple (ns.map PyData.int)) = true := by
  have lay : ∀ ns : List Int, PyData.canLayAll0 (ns.map PyData.int) = true := fun ns => by
    induction ns with
    | nil => rfl
    | cons n ns ih => show (true && PyData.canLayAll0 (ns.map PyData.int)) = true; rw [ih]; rfl
  have dep : ∀ ns : List Int, PyData.depthAll (ns.map PyData.int) ≤ 0 := fun ns => by
    induction ns with
    | nil => exact Nat.le_refl _
    | cons n ns ih => exact Nat.max_le.mpr ⟨Nat.le_refl _, ih⟩
  unfold SeqAt.shaped
  have h1 : (PyData.tuple (ns.map PyData.int)).canLay0 = true := lay ns
  have h2 : (PyData.tuple (ns.map PyData.int)).depth ≤ 64 := Nat.le_trans (Nat.succ_le_succ (dep ns)) (by decide)
  rw [h1, decide_eq_true h2]
  rfl
/-! what is played stays from 0 on -/
theorem gAt_pos {st : List Int} (h : ∀ z ∈ st, 0 ≤ z) (i : Int) : 0 ≤ gAt st i := by
  unfold gAt
  rw [List.getD_eq_getElem?_getD]
  cases e : st[i.toNat]? with
  | none => exact Int.le_refl 0
  | some z => exact h z (List.mem_of_getElem? e)
theorem set_pos {st : List Int} {i : Nat} {v : Int} (h : ∀ z ∈ st, 0 ≤ z) (hv : 0 ≤ v) : ∀ z ∈ st.set i v, 0 ≤ z := fun z hz => by
  rcases List.mem_or_eq_of_mem_set hz with hz | rfl
  · exact h z hz
  · exact hv
theorem turnTo_pos {r st : List Int} (h : ∀ z ∈ st, 0 ≤ z) : ∀ m, ∀ z ∈ turnTo r st m, 0 ≤ z
  | 0 => h
  | m + 1 => by rw [turnTo_succ]; exact set_pos (turnTo_pos h m) (gAt_pos h _)
theorem step_pos {rs : List (List Int)} {st : List Int} {m : Mv} (h : ∀ z ∈ st, 0 ≤ z) : ∀ z ∈ stepMv rs st m, 0 ≤ z := by
  cases m with
  | slide a b => exact set_pos (set_pos h (Int.le_refl 0)) (gAt_pos h _)
  | turn k => exact turnTo_pos h _
theorem play_pos {rs : List (List Int)} : ∀ {ms : List Mv} {st : List Int}, (∀ z ∈ st, 0 ≤ z) → ∀ z ∈ playMvs rs st ms, 0 ≤ z
  | [], _, h => h
  | m :: ms, st, h => play_pos (ms := ms) (st := stepMv rs st m) (step_pos h)
theorem can_mvIn {n : Nat} {ts : List (Int × Int)} {rs : List (List Int)} : ∀ {ms : List Mv} {st : List Int}, CanAll n ts rs st ms → ∀ m ∈ ms, MvIn ts rs m
  | [], _, _, m, h => by cases h
  | a :: l, st, c, m, h => by
    rcases List.mem_cons.mp h with rfl | h
    · exact can_in c.1
    · exact can_mvIn (ms := l) (st := stepMv rs st a) c.2 m h
theorem mvIn_ok {ts : List (Int × Int)} {rs : List (List Int)} {m : Mv} (h : MvIn ts rs m) : MvOk rs m := by
  cases m with
  | slide a b => trivial
  | turn k => exact h
theorem all_mvIn {ts : List (Int × Int)} {rs : List (List Int)} {m : Mv} (h : m ∈ allMoves ts rs) : MvIn ts rs m := by
  unfold allMoves turns at h
  rcases List.mem_append.mp h with h | h
  · obtain ⟨t, ht, rfl⟩ := List.mem_map.mp h
    exact ht
  · obtain ⟨k, hk, rfl⟩ := List.mem_map.mp h
    rw [List.mem_range] at hk
    exact ⟨by omega, by omega⟩
end Y
set_option Elab.async false
set_option linter.all false
set_option maxRecDepth 100000
set_option maxHeartbeats 4000000
namespace Y
open PySem PySem.Spec PyProof.Rows L2
/-! ### is a row of numbers a tie? -/
def rowD (ns : List Int) : PyData := .tuple (ns.map PyData.int)
theorem eqv_ints : ∀ (ns ms : List Int), PyData.eqvAll (ns.map PyData.int) (ms.map PyData.int) = decide (ns = ms)
  | [], [] => by simp [PyData.eqvAll]
  | [], _ :: _ => by simp [PyData.eqvAll]
  | _ :: _, [] => by simp [PyData.eqvAll]
  | a :: ns, b :: ms => by
    rw [List.map_cons, List.map_cons, PyData.eqvAll, eqv_ints ns ms, Bool.eq_iff_iff]
    simp [PyData.eqv]
theorem any_row (ts : List (Int × Int)) (ns : List Int) : (ts.map tieD).any (fun y => PyData.eqv y (rowD ns)) = decide (∃ t ∈ ts, [t.1, t.2] = ns) := by
  rw [List.any_map, Bool.eq_iff_iff, List.any_eq_true, decide_eq_true_iff]
  have e : ∀ t : Int × Int, PyData.eqv (tieD t) (rowD ns) = decide ([t.1, t.2] = ns) := fun t => by
    have q := eqv_ints [t.1, t.2] ns
    simp only [tieD, rowD, PyData.eqv]
    exact q
  constructor
  · rintro ⟨t, h, q⟩
    exact ⟨t, h, of_decide_eq_true ((e t).symm.trans q)⟩
  · rintro ⟨t, h, q⟩
    exact ⟨t, h, (e t).trans (decide_eq_true q)⟩
theorem lay_ints : ∀ ns : List Int, PyData.canLayAll0 (ns.map PyData.int) = true
  | [] => rfl
  | n :: ns => by simp only [List.map_cons, PyData.canLayAll0, lay_ints ns, PyData.canLay0, Bool.and_self]
theorem depth_ints : ∀ ns : List Int, PyData.depthAll (ns.map PyData.int) ≤ 1
  | [] => by simp [PyData.depthAll]
  | n :: ns => by
    have := depth_ints ns
    simp only [List.map_cons, PyData.depthAll, PyData.depth]
    omega
def rRowIn (K : PySem.W.Frag) : R2 := fun x y H Q => ∃ (a p : Addr) (ys : List V) (ts : List (Int × Int)) (ns : List Int), y = .ref a ∧ SqT K H a ys ∧ Paired (TieAt K H) ys ts ∧ x = .ref p ∧ SqT K H p (ns.map V.int) ∧ Q (.bl (decide (∃ t ∈ ts, [t.1, t.2] = ns))) H
theorem op_rowIn {X : Cx} (hu : X.A.units + 64 < cLine) : OpR X (compareOp .In) (rRowIn X.K) := by
  intro pins s σ H x y v u Q I rx ry h
  obtain ⟨a, p, ys, ts, ns, rfl, ha, hp, rfl, hs, q⟩ := h
  obtain ⟨as, r1⟩ := Dp.reads I (rowD ns) _ v (.tup hs (ints_dp ns)) rx
  obtain ⟨bs, r2⟩ := Dp.reads I (.tuple (ts.map tieD)) (.ref a) u (.tup ha (ties_dp hp)) ry
  have d1 : (rowD ns).depth ≤ 10 := by
    have := depth_ints ns
    simp only [rowD, PyData.depth]
    omega
  exact SeqAt.in_tuple_reads r2 r1 (lay_ties ts) (by simp only [rowD, PyData.canLay0]; exact lay_ints ns) (by have := Nat.min_le_right (PyData.depthAll (ts.map tieD)) (rowD ns).depth; omega) ⟨.bl _, H, I, rfl, by rw [any_row]; exact q⟩
/-! ### any data: is it a move? -/
def IsMv (ts : List (Int × Int)) (rs : List (List Int)) (d : PyData) : Prop := ∃ m, d = mvD m ∧ MvIn ts rs m
def fI : V → V
  | .int _ => .bl true
  | _ => .bl false
theorem fI_dq {K : PySem.W.Frag} {H : Hp} {d : PyData} {v : V} (h : Dq K H d v) : fI v = .bl (isI d) := by cases h <;> rfl
theorem fI_dqs {K : PySem.W.Frag} {H : Hp} : ∀ {ds : List PyData} {xs : List V}, Dqs K H ds xs → xs.map fI = (ds.map isI).map V.bl
  | _, _, .nil => rfl
  | _, _, .cons h t => by rw [List.map_cons, fI_dq h, fI_dqs t]; rfl
theorem all_ints {K : PySem.W.Frag} {H : Hp} : ∀ {ds : List PyData} {xs : List V}, Dqs K H ds xs → (ds.map isI).all id = true → ∃ ns : List Int, ds = ns.map PyData.int ∧ xs = ns.map V.int
  | _, _, .nil, _ => ⟨[], rfl, rfl⟩
  | _, _, .cons h t, a => by
    rw [List.map_cons, List.all_cons, Bool.and_eq_true] at a
    obtain ⟨ns, e1, e2⟩ := all_ints t a.2
    cases h with
    | int i => exact ⟨i :: ns, by rw [e1]; rfl, by rw [e2]; rfl⟩
    | _ => exact absurd a.1 (by simp [isI])
theorem dqs_len {K : PySem.W.Frag} {H : Hp} : ∀ {ds : List PyData} {xs : List V}, Dqs K H ds xs → xs.length = ds.length
  | _, _, .nil => rfl
  | _, _, .cons _ t => by rw [List.length_cons, List.length_cons, dqs_len t]
theorem dqs_get {K : PySem.W.Frag} {H : Hp} : ∀ {ds : List PyData} {xs : List V}, Dqs K H ds xs → ∀ {i : Nat} {x : V}, xs[i]? = some x → ∃ d, ds[i]? = some d ∧ Dq K H d x
  | _, _, .nil, i, x, h => by simp at h
  | _, _, .cons h t, 0, x, e => by cases Option.some.inj e; exact ⟨_, rfl, h⟩
  | _, _, .cons h t, i + 1, x, e => dqs_get t (i := i) e
mutual
theorem Dq.kp {K : PySem.W.Frag} {H H' : Hp} (s : Same H H') : ∀ {d : PyData} {v : V}, Dq K H d v → Dq K H' d v
  | _, _, .non => .non
  | _, _, .bl b => .bl b
  | _, _, .int i => .int i
  | _, _, .str x => .str x
  | _, _, .lst h t => .lst (s.seq h) (Dqs.kp s t)
  | _, _, .tup h t => .tup (Same.seqT s h) (Dqs.kp s t)
  | _, _, .dct e => .dct (s _ _ e)
theorem Dqs.kp {K : PySem.W.Frag} {H H' : Hp} (s : Same H H') : ∀ {ds : List PyData} {vs : List V}, Dqs K H ds vs → Dqs K H' ds vs
  | _, _, .nil => .nil
  | _, _, .cons h t => .cons (Dq.kp s h) (Dqs.kp s t)
end
def spIsMoveD (K : PySem.W.Frag) : Sp := fun vs H Q _ => ∃ (x : Addr) (y : V) (n : Nat) (ts : List (Int × Int)) (rs : List (List Int)) (d : PyData), vs = [.ref x, y] ∧ YObj K H x n ts rs ∧ Dq K H d y ∧ (∀ ds, d = .tuple ds → ds.length ≤ 100) ∧ ∀ H' b, Same H H' → (b = true ↔ IsMv ts rs d) → Q (.bl b) H'
theorem not_mv {ts : List (Int × Int)} {rs : List (List Int)} {d : PyData} (h : ∀ m, d ≠ mvD m) : (false = true ↔ IsMv ts rs d) := ⟨fun z => (Bool.false_ne_true z).elim, fun ⟨m, e, _⟩ => (h m e).elim⟩
section
variable {P : Program} {w : World} {K : PySem.W.Frag} {mg : Str → Option Value} {base : Heap} {fInt : Addr}
theorem ok_isMoveD {f : Addr} {fd fdI : FuncData} (F : Fun K "is_move" "is_move" sIsMove f fd) (T : TN K mg fInt) (FI : Fun K "is_integer" "is_integer" sIsInt fInt fdI) (bI : Binds K fdI ["value"] []) : FnOk P w K mg base CX0 2 f fd ["yard", "value"] (spIsMoveD K) := by
  have GI : FnOk P w K mg base CX0 1 fInt fdI ["value"] (spIsIntD K) := ok_isIntD FI T.i
  refine F.ok scIsMove (fun vs H Q E h => ?_) (fun cdv A outer s H vs Q E hr h => ?_)
  · obtain ⟨x, y, n, ts, rs, d, rfl, _⟩ := h
    rfl
  · obtain ⟨x, y, n, ts, rs, d, rfl, hy, hd, d100, k⟩ := h
    have hu := hr.units
    refine ⟨_, pss_cons (ps_if (PW.pt (pw_or (pt_not (pt_val (pe_callB call_isi (by rfl) T.i.isi (by decide +kernel) (pa_cons (pv 1) (pa_cons (pbT (n := "tuple") T.i.tuple (by decide +kernel)) pa_nil)))))
        (pw_or (pt_cmpR op_lt (pe_callB call_len_seq (by rfl) T.len PySem.boot_len (pa_cons (pv 1) pa_nil)) pe_int (nomark _)) (pw_or1 (pt_not (pt_val (pe_callB call_isi (by rfl) T.i.isi (by decide +kernel) (pa_cons (pe_ix ix_tup (pv 1) pe_int (fun _ _ => rfl)) (pa_cons (pbT (n := "str") T.str (by decide +kernel)) pa_nil))))))))) (pss_one (ps_ret pe_bl)) pss_nil)
      (pss_cons (ps_if (pt_not (pt_val (pe_callB (cr_all rfl) (by rfl) T.all (by decide +kernel) (pa_cons (pe_lc (own := [("number", 2)]) (g := gName 2) (tt := tYes) rfl scIsMove.nd (pi_tup (pe_slice sl_tup (pv 1) (po_some pe_int) po_none)) (blkOk_by (N := ["yard", "value", "number"]) (sc := defScope sIsMove) (by decide +kernel))
          (fun _ _ _ _ _ => pg_name (i := 2) scIsMove.nd rfl (Or.inl rfl)) (fun _ _ _ _ _ => pts_nil) (fun _ _ _ _ _ => pe_call GI hr (by rfl) T.gInt FI.kp bI .nil pass0 (pa_cons (pv 2) pa_nil))) pa_nil)))) (pss_one (ps_ret pe_bl)) pss_nil)
      (pss_cons (ps_if (pt_cmpR op_eq (pe_ix ix_tup (pv 1) pe_int (fun _ _ => rfl)) pe_str (nomark _)) (pss_one (ps_ret (pe_cmpR (op_rowIn hu) (pe_slice sl_tup (pv 1) (po_some pe_int) po_none) (pe_fld (pv 0) rfl) (by rfl)))) pss_nil)
      (pss_one (ps_ret (pe_and (pe_cmpR op_eq (pe_ix ix_tup (pv 1) pe_int (fun _ _ => rfl)) pe_str (nomark _)) (pe_and (pe_cmpR op_eq (pe_callB call_len_seq (by rfl) T.len PySem.boot_len (pa_cons (pv 1) pa_nil)) pe_int (nomark _))
        (pe_one (pe_chain op_le op_lt pe_int (pe_ix ix_tup (pv 1) pe_int (fun _ _ => rfl)) (pe_callB call_len_seq (by rfl) T.len PySem.boot_len (pa_cons (pe_fld (pv 0) rfl) pa_nil)))))))))), ?_⟩
    obtain ⟨C, dx, a, e, fs, ys, zs, hx, yc, lp, lt, lr, ha, pa, he, pe⟩ := hy
    have ty := dq_ty hd
    have k0 : (∀ m, d ≠ mvD m) → Q (.bl false) H := fun h => k H false (Same.refl' H) (not_mv h)
    cases hd with
    | non => exact ⟨_, rfl, _, _, _, _, false, rfl, ClsV.ty _, ty, kit_ty (by dsimp only [tyNm]; decide +kernel), _, rfl, iteT (k0 fun m => by cases m <;> (intro z; cases z))⟩
    | bl b => exact ⟨_, rfl, _, _, _, _, false, rfl, ClsV.ty _, ty, kit_ty (by dsimp only [tyNm]; decide +kernel), _, rfl, iteT (k0 fun m => by cases m <;> (intro z; cases z))⟩
    | int i => exact ⟨_, rfl, _, _, _, _, false, rfl, ClsV.ty _, ty, kit_ty (by dsimp only [tyNm]; decide +kernel), _, rfl, iteT (k0 fun m => by cases m <;> (intro z; cases z))⟩
    | str i => exact ⟨_, rfl, _, _, _, _, false, rfl, ClsV.ty _, ty, kit_ty (by dsimp only [tyNm]; decide +kernel), _, rfl, iteT (k0 fun m => by cases m <;> (intro z; cases z))⟩
    | lst h1 h2 => exact ⟨_, rfl, _, _, _, _, false, rfl, ClsV.ty _, ty, kit_ty (by dsimp only [tyNm]; decide +kernel), _, rfl, iteT (k0 fun m => by cases m <;> (intro z; cases z))⟩
    | dct h1 => exact ⟨_, rfl, _, _, _, _, false, rfl, ClsV.ty _, ty, kit_ty (by dsimp only [tyNm]; decide +kernel), _, rfl, iteT (k0 fun m => by cases m <;> (intro z; cases z))⟩
    | @tup ds b xs hm hds =>
      have l100 := d100 ds rfl
      have lx := dqs_len hds
      refine ⟨_, rfl, _, _, _, _, true, rfl, ClsV.ty _, ty, kit_ty (by dsimp only [tyNm]; decide +kernel), _, rfl, iteF ?_⟩
      refine ⟨_, rfl, b, _, rfl, .inr hm, _, _, rfl, rfl, _, rfl, ?_⟩
      refine ifT (fun h => ?_) (fun hlen => ?_)
      · have h' : ((xs.length : Nat) : Int) < 2 := of_decide_eq_true h
        refine k0 fun m z => ?_
        have z2 : ds.length = m.vs.length := by cases m <;> (injection z with z; rw [z]; rfl)
        cases m with
        | slide u v => have : ds.length = 3 := z2; omega
        | turn u => have : ds.length = 2 := z2; omega
      have h2 : 2 ≤ xs.length := by
        have h' : ¬ ((xs.length : Nat) : Int) < 2 := of_decide_eq_false hlen
        omega
      cases hds with
      | nil => exact absurd h2 (by simp)
      | @cons d0 ds' x0 xs' hd0 hds' =>
        have ty0 := dq_ty hd0
        refine ⟨_, rfl, b, _, 0, _, rfl, rfl, hm, atI_nat (j := 0) rfl, ?_⟩
        have k1 : (∀ w, d0 ≠ .str w) → Q (.bl false) H := fun h => k0 fun m => by cases m <;> (intro z; injection z with z; injection z with z; exact h _ z)
        cases hd0 with
        | non => exact ⟨_, _, _, _, false, rfl, ClsV.ty _, ty0, kit_ty (by dsimp only [tyNm]; decide +kernel), _, rfl, iteT (k1 fun w z => by cases z)⟩
        | bl b => exact ⟨_, _, _, _, false, rfl, ClsV.ty _, ty0, kit_ty (by dsimp only [tyNm]; decide +kernel), _, rfl, iteT (k1 fun w z => by cases z)⟩
        | int i => exact ⟨_, _, _, _, false, rfl, ClsV.ty _, ty0, kit_ty (by dsimp only [tyNm]; decide +kernel), _, rfl, iteT (k1 fun w z => by cases z)⟩
        | lst h1 h2 => exact ⟨_, _, _, _, false, rfl, ClsV.ty _, ty0, kit_ty (by dsimp only [tyNm]; decide +kernel), _, rfl, iteT (k1 fun w z => by cases z)⟩
        | tup h1 h2 => exact ⟨_, _, _, _, false, rfl, ClsV.ty _, ty0, kit_ty (by dsimp only [tyNm]; decide +kernel), _, rfl, iteT (k1 fun w z => by cases z)⟩
        | dct h1 => exact ⟨_, _, _, _, false, rfl, ClsV.ty _, ty0, kit_ty (by dsimp only [tyNm]; decide +kernel), _, rfl, iteT (k1 fun w z => by cases z)⟩
        | str wd =>
          refine ⟨_, _, _, _, true, rfl, ClsV.ty _, ty0, kit_ty (by dsimp only [tyNm]; decide +kernel), _, rfl, iteF ?_⟩
          have l2 : 1 ≤ xs'.length := by rw [List.length_cons] at h2; omega
          have cut1 : cutV (V.str wd :: xs') (some 1) none = xs' := by
            unfold cutV
            have e1 : HT.sIx (V.str wd :: xs').length 0 (some 1) = 1 := by
              rw [show (some (1 : Int)) = some ((1 : Nat) : Int) from rfl, HT.sIx_nat, List.length_cons]
              omega
            rw [e1, HT.sIx_none, List.drop_one, List.tail_cons]
            exact List.take_of_length_le (by rw [List.length_cons]; omega)
          have ncut : ¬ (HT.sIx (V.str wd :: xs').length 0 (some 1) = 0 ∧ HT.sIx (V.str wd :: xs').length (V.str wd :: xs').length none = (V.str wd :: xs').length) := by
            rintro ⟨h, _⟩
            rw [show (some (1 : Int)) = some ((1 : Nat) : Int) from rfl, HT.sIx_nat, List.length_cons] at h
            omega
          refine ⟨_, rfl, _, rfl, b, _, rfl, hm, ncut, fun p np => ?_⟩
          rw [cut1]
          have s1 := Same.new (o := .tup xs') np
          have lx' := dqs_len hds'
          rw [List.length_cons] at l100
          refine ⟨p, rfl, ⟨_, SqT.of upd_same⟩, fun D hD => ?_⟩
          refine lcp_tup (f := fI) (xs := xs') hD (by omega) (SqT.of upd_same) (fun H' s' => SqT.of (s' _ _ upd_same)) (fun i v0 H2 R hx2 s2 hR => ?_) ?_
          · obtain ⟨di, _, hdi⟩ := dqs_get hds' hx2
            refine ⟨rfl, _, rfl, v0, di, rfl, Dq.kp (s1.trans s2) hdi, ?_⟩
            rw [← fI_dq hdi]
            exact hR
          · have s2 := s1.trans (Same.new (o := .lst (xs'.map fI)) hD)
            refine ⟨D, ds'.map isI, rfl, ?_, ?_⟩
            · rw [← fI_dqs hds']
              exact SqL.of upd_same
            refine ⟨_, rfl, ?_⟩
            cases hall : (ds'.map isI).all id with
            | false =>
              refine iteT (k _ false s2 (not_mv fun m z => ?_))
              have e2 : (ds'.map isI).all id = true := by cases m <;> (injection z with z; injection z with _ z; rw [z]; rfl)
              rw [hall] at e2
              cases e2
            | true =>
            refine iteF ?_
            obtain ⟨ns, rfl, rfl⟩ := all_ints hds' hall
            have hm2 := Same.seqT s2 hm
            have hx2 := s2 _ _ hx
            refine ⟨_, rfl, b, _, 0, _, rfl, rfl, hm2, atI_nat (j := 0) rfl, rfl, _, rfl, ?_⟩
            refine ifT (fun h => ?_) (fun hns => ?_)
            · have ew : wd = "slide" := by
                have := of_decide_eq_true h
                injection this
              subst ew
              refine ⟨_, rfl, _, rfl, b, _, rfl, hm2, ncut, fun p2 np2 => ?_⟩
              rw [cut1]
              have s3 := s2.trans (Same.new (o := .tup (ns.map V.int)) np2)
              refine ⟨_, rfl, x, C, dx, fs, _, rfl, s3 _ _ hx, yc.c, yc.t, lt, a, p2, ys, ts, ns, rfl, Same.seqT s3 ha, ties_kp pa (.of_same s3), rfl, SqT.of upd_same, ?_⟩
              refine k _ _ s3 ?_
              rw [decide_eq_true_iff]
              constructor
              · rintro ⟨t, ht, rfl⟩
                exact ⟨.slide t.1 t.2, rfl, ht⟩
              · rintro ⟨m, z, hin⟩
                cases m with
                | slide u v =>
                  injection z with z
                  injection z with _ z
                  refine ⟨(u, v), hin, ?_⟩
                  have e3 : (ns.map PyData.int) = [u, v].map PyData.int := z
                  have e4 := eqv_ints ns [u, v]
                  rw [e3, ints_self] at e4
                  exact (of_decide_eq_true e4.symm).symm
                | turn u =>
                  injection z with z
                  injection z with z _
                  injection z with z
                  exact absurd z (by decide +kernel)
            · have ew : ¬ wd = "slide" := fun z => by
                have := of_decide_eq_false hns
                exact this (by rw [z])
              refine ⟨_, rfl, b, _, 0, _, rfl, rfl, hm2, atI_nat (j := 0) rfl, rfl, _, rfl, ?_⟩
              refine ifT (fun h => ?_) (fun hnt => ?_)
              · have et : wd = "turn" := by
                  have := of_decide_eq_true h
                  injection this
                subst et
                refine ⟨_, rfl, b, _, rfl, .inr hm2, rfl, _, rfl, ?_⟩
                refine ifT (fun h => ?_) (fun hn2 => ?_)
                · have l1 : ns.length = 1 := by
                    have := of_decide_eq_true h
                    injection this with this
                    rw [List.length_cons, List.length_map] at this
                    omega
                  obtain ⟨kk, rfl⟩ : ∃ kk, ns = [kk] := by
                    match ns, l1 with
                    | [kk], _ => exact ⟨kk, rfl⟩
                  have hz := Paired.length pe
                  refine ⟨_, rfl, b, _, 1, _, rfl, rfl, hm2, atI_nat (j := 1) rfl, ?_⟩
                  refine ⟨_, _, rfl, rfl, _, rfl, ?_⟩
                  have fin : ∀ b, (b = true ↔ (0 ≤ kk ∧ kk < (rs.length : Int))) → (b = true ↔ IsMv ts rs (PyData.tuple (PyData.str "turn" :: List.map PyData.int [kk]))) := fun b hb => hb.trans ⟨fun h => ⟨.turn kk, rfl, h⟩, fun ⟨m, z, hin⟩ => by
                    cases m with
                    | slide u v =>
                      injection z with z
                      injection z with z _
                      injection z with z
                      exact absurd z (by decide +kernel)
                    | turn u =>
                      injection z with z
                      injection z with _ z
                      have e3 : ([kk].map PyData.int) = [u].map PyData.int := z
                      injection e3 with e3 _
                      injection e3 with e3
                      rw [e3]
                      exact hin⟩
                  refine ifT (fun h0 => ?_) (fun h0 => ?_)
                  · refine ⟨_, rfl, x, C, dx, fs, _, rfl, hx2, yc.c, yc.r, lr, e, zs, rfl, .inr (Same.seqT s2 he), _, _, rfl, rfl, ?_⟩
                    refine k _ _ s2 (fin _ ?_)
                    rw [decide_eq_true_iff]
                    have h0' : 0 ≤ kk := of_decide_eq_true h0
                    rw [hz]
                    exact ⟨fun h => ⟨h0', h⟩, fun h => h.2⟩
                  · refine k _ _ s2 (fin _ ⟨fun z => (Bool.false_ne_true z).elim, fun h => ?_⟩)
                    exact absurd h.1 (of_decide_eq_false h0)
                · refine k _ _ s2 (not_mv fun m z => ?_)
                  refine of_decide_eq_false hn2 ?_
                  cases m with
                  | slide u v =>
                    injection z with z
                    injection z with z _
                    injection z with z
                    exact absurd z (by decide +kernel)
                  | turn u =>
                    injection z with z
                    injection z with _ z
                    have := congrArg List.length z
                    rw [List.length_map] at this
                    rw [List.length_cons, List.length_map, this]
                    rfl
              · refine k _ _ s2 (not_mv fun m z => ?_)
                cases m with
                | slide u v =>
                  injection z with z
                  injection z with z _
                  injection z with z
                  exact ew z
                | turn u =>
                  injection z with z
                  injection z with z _
                  injection z with z
                  exact of_decide_eq_false hnt (by rw [z])
end
end Y
set_option Elab.async false
set_option linter.all false
set_option maxRecDepth 100000
set_option maxHeartbeats 4000000
namespace Y
open PySem L2
/-! ### rows and stands of any data -/
abbrev sIsStd : Stmt := top 999
def isRowB : PyData → Bool
  | .list _ => true
  | .tuple _ => true
  | _ => false
def isStB (n : Nat) : PyData → Bool
  | .list es => decide (es.length = n) && es.all isCnt
  | .tuple es => decide (es.length = n) && es.all isCnt
  | _ => false
def isTupB : PyData → Bool
  | .tuple _ => true
  | _ => false
def shortD (d : PyData) : Prop := ∀ es, d = .list es ∨ d = .tuple es → es.length ≤ 1000
def spIsRowD (K : PySem.W.Frag) : Sp := fun vs H Q _ => ∃ (x : V) (d : PyData), vs = [x] ∧ Dq K H d x ∧ ∀ H', Same H H' → Q (.bl (isRowB d)) H'
def spStRowD (K : PySem.W.Frag) : Sp := fun vs H Q _ => ∃ (x : Addr) (y : V) (n : Nat) (ts : List (Int × Int)) (rs : List (List Int)) (d : PyData), vs = [.ref x, y] ∧ YObj K H x n ts rs ∧ Dq K H d y ∧ shortD d ∧ ∀ H', Same H H' → Q (.bl (isStB n d)) H'
def spStdD (K : PySem.W.Frag) : Sp := fun vs H Q _ => ∃ (x : Addr) (y : V) (n : Nat) (ts : List (Int × Int)) (rs : List (List Int)) (d : PyData), vs = [.ref x, y] ∧ YObj K H x n ts rs ∧ Dq K H d y ∧ shortD d ∧ ∀ H', Same H H' → Q (.bl (isTupB d && isStB n d)) H'
theorem kit_rowD {K : PySem.W.Frag} (d : PyData) : PySem.W.kitAny K (.type (tyNm d)) [.type "tuple", .type "list"] = some (isRowB d) := by
  cases d with
  | list _ => exact kit_row (.inl rfl)
  | tuple _ => exact kit_row (.inr rfl)
  | none =>
    have e1 : PySem.W.kitOne K (.type "NoneType") (.type "tuple") = some false := kit_ty (by decide +kernel)
    have e2 : PySem.W.kitOne K (.type "NoneType") (.type "list") = some false := kit_ty (by decide +kernel)
    simp only [tyNm, PySem.W.kitAny, e1, e2, isRowB]
  | bool _ =>
    have e1 : PySem.W.kitOne K (.type "bool") (.type "tuple") = some false := kit_ty (by decide +kernel)
    have e2 : PySem.W.kitOne K (.type "bool") (.type "list") = some false := kit_ty (by decide +kernel)
    simp only [tyNm, PySem.W.kitAny, e1, e2, isRowB]
  | int _ =>
    have e1 : PySem.W.kitOne K (.type "int") (.type "tuple") = some false := kit_ty (by decide +kernel)
    have e2 : PySem.W.kitOne K (.type "int") (.type "list") = some false := kit_ty (by decide +kernel)
    simp only [tyNm, PySem.W.kitAny, e1, e2, isRowB]
  | str _ =>
    have e1 : PySem.W.kitOne K (.type "str") (.type "tuple") = some false := kit_ty (by decide +kernel)
    have e2 : PySem.W.kitOne K (.type "str") (.type "list") = some false := kit_ty (by decide +kernel)
    simp only [tyNm, PySem.W.kitAny, e1, e2, isRowB]
  | dict _ =>
    have e1 : PySem.W.kitOne K (.type "dict") (.type "tuple") = some false := kit_ty (by decide +kernel)
    have e2 : PySem.W.kitOne K (.type "dict") (.type "list") = some false := kit_ty (by decide +kernel)
    simp only [tyNm, PySem.W.kitAny, e1, e2, isRowB]
def fC : V → V
  | .int z => .bl (decide (0 ≤ z))
  | _ => .bl false
theorem fC_dq {K : PySem.W.Frag} {H : Hp} {d : PyData} {v : V} (h : Dq K H d v) : fC v = .bl (isCnt d) := by cases h <;> rfl
theorem fC_dqs {K : PySem.W.Frag} {H : Hp} : ∀ {ds : List PyData} {vs : List V}, Dqs K H ds vs → vs.map fC = (ds.map isCnt).map V.bl
  | _, _, .nil => rfl
  | _, _, .cons h t => by rw [List.map_cons, List.map_cons, List.map_cons, fC_dq h, fC_dqs t]
theorem all_id (ds : List PyData) : (ds.map isCnt).all id = ds.all isCnt := by
  rw [List.all_map]
  rfl
/-- a row among data -/
theorem row_of {K : PySem.W.Frag} {H : Hp} {d : PyData} {y : V} (h : Dq K H d y) (r : isRowB d = true) : ∃ (b : Addr) (xs : List V) (es : List PyData), y = .ref b ∧ SqA K H b xs ∧ Dqs K H es xs ∧ (d = .list es ∨ d = .tuple es) := by
  cases h with
  | lst h t => exact ⟨_, _, _, rfl, .inl h, t, .inl rfl⟩
  | tup h t => exact ⟨_, _, _, rfl, .inr h, t, .inr rfl⟩
  | _ => cases r
section
variable {P : Program} {w : World} {K : PySem.W.Frag} {mg : Str → Option Value} {base : Heap} {fInt fRow fIsS fMove fCan fBeh fAll fCnt : Addr}
theorem ok_isRowD {f : Addr} {fd : FuncData} (F : Fun K "is_row" "is_row" sIsRow f fd) (T : TI0 mg) : FnOk P w K mg base CX0 1 f fd ["value"] (spIsRowD K) := by
  refine F.ok scIsRow (fun vs H Q E h => ?_) (fun cdv A outer s H vs Q E hr h => ?_)
  · obtain ⟨x, d, rfl, _⟩ := h
    rfl
  · obtain ⟨x, d, rfl, hd, k⟩ := h
    refine ⟨_, pss_one (ps_ret (pe_callB call_isiT (by rfl) T.isi (by decide +kernel) (pa_cons (pv 0) (pa_cons (pe_tup (pa_cons (pbT (n := "tuple") T.tuple (by decide +kernel)) (pa_cons (pbT (n := "list") T.list (by decide +kernel)) pa_nil))) pa_nil)))), ?_⟩
    refine ⟨_, rfl, (by show 2 ≤ sizeLine; decide), fun t nt => ?_⟩
    exact ⟨x, t, _, _, _, isRowB d, rfl, upd_same, .cons (ClsV.ty _) (.cons (ClsV.ty _) .nil), dq_ty (Dq.kp (Same.new nt) hd), kit_rowD d, k _ (Same.new nt)⟩
end
end Y
set_option Elab.async false
set_option linter.all false
set_option maxRecDepth 100000
set_option maxHeartbeats 4000000
namespace Y
open PySem L2
/-! ### rows of data as moves -/
abbrev sMvInit : Stmt := inClass (top 12) 0
/-- whether a move of the yard can be made -/
def canB (st : List Int) : Mv → Bool
  | .slide a b => canSlide st (a, b)
  | .turn _ => true
theorem mvD_inj {m m' : Mv} (h : mvD m = mvD m') : m = m' := by
  cases m with
  | slide a b =>
    cases m' with
    | slide c d =>
      injection h with h
      injection h with _ h
      injection h with h1 h
      injection h with h2 _
      injection h1 with h1
      injection h2 with h2
      rw [h1, h2]
    | turn c =>
      injection h with h
      injection h with h _
      injection h with h
      exact absurd h (by decide +kernel)
  | turn a =>
    cases m' with
    | slide c d =>
      injection h with h
      injection h with h _
      injection h with h
      exact absurd h (by decide +kernel)
    | turn c =>
      injection h with h
      injection h with _ h
      injection h with h1 _
      injection h1 with h1
      rw [h1]
open Classical in
/-- the stand behind a data, if it is a move and can be made -/
noncomputable def stepD (ts : List (Int × Int)) (rs : List (List Int)) (st : List Int) (d : PyData) : Option (List Int) :=
  if h : ∃ m, d = mvD m ∧ MvIn ts rs m ∧ canB st m = true then some (stepMv rs st h.choose) else none
theorem stepD_some {ts : List (Int × Int)} {rs : List (List Int)} {st : List Int} {d : PyData} {m : Mv} (e : d = mvD m) (hin : MvIn ts rs m) (hc : canB st m = true) : stepD ts rs st d = some (stepMv rs st m) := by
  have h : ∃ m, d = mvD m ∧ MvIn ts rs m ∧ canB st m = true := ⟨m, e, hin, hc⟩
  unfold stepD
  rw [dif_pos h]
  have := mvD_inj (h.choose_spec.1.symm.trans e)
  rw [this]
theorem stepD_none {ts : List (Int × Int)} {rs : List (List Int)} {st : List Int} {d : PyData} (h : ∀ m, d = mvD m → MvIn ts rs m → canB st m = false) : stepD ts rs st d = none := by
  unfold stepD
  refine dif_neg fun ⟨m, e, hin, hc⟩ => ?_
  rw [h m e hin] at hc
  cases hc
/-- a row of data played: the first wrong one's number, or the stand behind all -/
noncomputable def runD (ts : List (Int × Int)) (rs : List (List Int)) : Nat → List Int → List PyData → Nat ⊕ List Int
  | _, st, [] => .inr st
  | i, st, d :: ds => match stepD ts rs st d with
    | some st' => runD ts rs (i + 1) st' ds
    | none => .inl i
theorem runD_cons_some {ts : List (Int × Int)} {rs : List (List Int)} {i : Nat} {st st' : List Int} {d : PyData} {ds : List PyData} (h : stepD ts rs st d = some st') : runD ts rs i st (d :: ds) = runD ts rs (i + 1) st' ds := by
  show (match stepD ts rs st d with | some st' => runD ts rs (i + 1) st' ds | none => .inl i) = _
  rw [h]
theorem runD_cons_none {ts : List (Int × Int)} {rs : List (List Int)} {i : Nat} {st : List Int} {d : PyData} {ds : List PyData} (h : stepD ts rs st d = none) : runD ts rs i st (d :: ds) = .inl i := by
  show (match stepD ts rs st d with | some st' => runD ts rs (i + 1) st' ds | none => .inl i) = _
  rw [h]
theorem canB_of {n : Nat} {ts : List (Int × Int)} {rs : List (List Int)} {st : List Int} {m : Mv} (h : CanMv n ts rs st m) : canB st m = true := by
  cases m with
  | slide a b =>
    show (decide (0 < gAt st a) && decide (gAt st b = 0)) = true
    rw [decide_eq_true h.2.2.1, decide_eq_true h.2.2.2]
    rfl
  | turn k => rfl
theorem can_of {n : Nat} {ts : List (Int × Int)} {rs : List (List Int)} {st : List Int} {m : Mv} (tok : ∀ t ∈ ts, TieOk n t) (hin : MvIn ts rs m) (h : canB st m = true) : CanMv n ts rs st m := by
  cases m with
  | slide a b =>
    have h' : (decide (0 < gAt st a) && decide (gAt st b = 0)) = true := h
    rw [Bool.and_eq_true, decide_eq_true_iff, decide_eq_true_iff] at h'
    exact ⟨hin, tok _ hin, h'.1, h'.2⟩
  | turn k => exact hin
/-- right moves that can all be made -/
theorem runD_mvs {n : Nat} {ts : List (Int × Int)} {rs : List (List Int)} : ∀ {ms : List Mv} {st : List Int} {i : Nat}, CanAll n ts rs st ms → runD ts rs i st (ms.map mvD) = .inr (playMvs rs st ms)
  | [], _, _, _ => rfl
  | m :: ms, st, i, h => (runD_cons_some (stepD_some rfl (can_in h.1) (canB_of h.1))).trans (runD_mvs h.2)
theorem runD_app {n : Nat} {ts : List (Int × Int)} {rs : List (List Int)} {ds : List PyData} : ∀ {ms : List Mv} {st : List Int} {i : Nat}, CanAll n ts rs st ms → runD ts rs i st (ms.map mvD ++ ds) = runD ts rs (i + ms.length) (playMvs rs st ms) ds
  | [], _, _, _ => rfl
  | m :: ms, st, i, h => (runD_cons_some (stepD_some rfl (can_in h.1) (canB_of h.1))).trans ((runD_app h.2).trans (by rw [List.length_cons, Nat.add_assoc, Nat.add_comm 1]; rfl))
theorem mv_dq {K : PySem.W.Frag} {H : Hp} {y : V} {m : Mv} (h : MvAt K H y m) : Dq K H (mvD m) y := by
  obtain ⟨b, rfl, h⟩ := h
  cases m with
  | slide u v => exact .tup h (.cons (.str _) (.cons (.int _) (.cons (.int _) .nil)))
  | turn k => exact .tup h (.cons (.str _) (.cons (.int _) .nil))
theorem mvs_dq {K : PySem.W.Frag} {H : Hp} {ys : List V} {ms : List Mv} (h : MvsAt K H ys ms) : Dqs K H (ms.map mvD) ys := by
  induction h with
  | nil => exact .nil
  | cons a _ ih => exact .cons (mv_dq a) ih
theorem dq_mv {K : PySem.W.Frag} {H : Hp} {y : V} {m : Mv} {d : PyData} (h : Dq K H d y) (e : d = mvD m) : MvAt K H y m := by
  subst e
  cases m with
  | slide u v =>
    cases h with
    | tup hs hd =>
      cases hd with
      | cons a hd => cases a; cases hd with
        | cons a hd => cases a; cases hd with
          | cons a hd => cases a; cases hd; exact ⟨_, rfl, hs⟩
  | turn u =>
    cases h with
    | tup hs hd =>
      cases hd with
      | cons a hd => cases a; cases hd with
        | cons a hd => cases a; cases hd; exact ⟨_, rfl, hs⟩
/-! ### can_be_made of any move of the yard -/
def spCanB (K : PySem.W.Frag) : Sp := fun vs H Q _ => ∃ (s : Addr) (y : V) (n : Nat) (ts : List (Int × Int)) (rs : List (List Int)) (st : List Int) (m : Mv), vs = [.ref s, y] ∧ SqA K H s (st.map V.int) ∧ st.length = n ∧ (∀ t ∈ ts, TieOk n t) ∧ (∀ z ∈ st, 0 ≤ z) ∧ MvAt K H y m ∧ MvIn ts rs m ∧ Q (.bl (canB st m)) H
section
variable {P : Program} {w : World} {K : PySem.W.Frag} {mg : Str → Option Value} {base : Heap} {fInt fRow fIsS fMove fCan fBeh fAll fCnt CM fI : Addr}
theorem ok_canB {f : Addr} {fd : FuncData} (F : Fun K "can_be_made" "can_be_made" sCanBe f fd) : FnOk P w K mg base CX0 1 f fd ["stand", "move"] (spCanB K) := by
  refine F.ok scCanBe (fun vs H Q E h => ?_) (fun cdv A outer s H vs Q E hr h => ?_)
  · obtain ⟨s, y, n, ts, rs, st, m, rfl, _⟩ := h
    rfl
  · obtain ⟨s, y, n, ts, rs, st, m, rfl, hs, hst, tok, pos, ⟨b, rfl, hm⟩, hin, k⟩ := h
    refine ⟨_, pss_one (ps_ret (pe_or (pe_cmpR op_eq (pe_ix ix_tup (pv 1) pe_int (fun _ _ => rfl)) pe_str (nomark _)) (pe_one (pe_and (pe_cmpR op_ne (pe_ix ix_any (pv 0) (pe_ix ix_tup (pv 1) pe_int (fun _ _ => rfl)) (fun _ _ => rfl)) pe_int (nomark _)) (pe_one (pe_cmpR op_eq (pe_ix ix_any (pv 0) (pe_ix ix_tup (pv 1) pe_int (fun _ _ => rfl)) (fun _ _ => rfl)) pe_int (nomark _))))))), ?_⟩
    cases m with
    | turn kk => exact ⟨_, rfl, b, _, 0, _, rfl, rfl, hm, atI_nat (j := 0) rfl, rfl, true, rfl, iteT k⟩
    | slide u v =>
      obtain ⟨a0, a1, b0, b1, _⟩ := tok _ hin
      rw [← hst] at a1 b1
      have p0 := gAt_pos pos u
      refine ⟨_, rfl, b, _, 0, _, rfl, rfl, hm, atI_nat (j := 0) rfl, rfl, false, rfl, iteF ?_⟩
      refine ⟨_, rfl, _, rfl, b, _, 1, _, rfl, rfl, hm, atI_nat (j := 1) rfl, s, _, u, _, rfl, rfl, hs, atI_st a0 a1, rfl, _, rfl, ?_⟩
      have k' : Q (.bl (decide (0 < gAt st u) && decide (gAt st v = 0))) H := k
      refine ifT (fun h => ?_) (fun h => ?_)
      · refine ⟨_, rfl, _, rfl, b, _, 2, _, rfl, rfl, hm, atI_nat (j := 2) rfl, s, _, v, _, rfl, rfl, hs, atI_st b0 b1, rfl, ?_⟩
        have g1 : 0 < gAt st u := by
          rcases Int.lt_or_eq_of_le p0 with z | z
          · exact z
          · rw [← z] at h
            simp at h
        rw [decide_eq_true g1, Bool.true_and] at k'
        have e : (decide (V.int (gAt st v) = V.int 0)) = decide (gAt st v = 0) := by
          rw [Bool.eq_iff_iff, decide_eq_true_iff, decide_eq_true_iff]
          exact ⟨fun z => by injection z, fun z => by rw [z]⟩
        rw [e]
        exact k'
      · have g1 : ¬ 0 < gAt st u := fun z => by
          have ne : ¬ V.int (gAt st u) = V.int 0 := fun z2 => by injection z2 with z2; omega
          rw [decide_eq_false ne] at h
          cases h
        rw [decide_eq_false g1, Bool.false_and] at k'
        exact k'
/-! ### the error of a move -/
structure XMv (K : PySem.W.Frag) (mg : Str → Option Value) (C fI : Addr) : Prop where
  g : mg "BadMove" = some (.ref C)
  xc : XcC K C
  i : PySem.W.findIn K (.ref C) "__init__" = some (some (.ref fI))
  t : PySem.W.typeIn K (.ref fI) = some (.type "function")
  n : PySem.W.findIn K (.ref C) "index" = some none
theorem scMvInit : FnScope ["self", "index"] ["self", "index"] (defScope sMvInit) := ⟨rfl, rfl, rfl, by decide +kernel, rfl, by decide +kernel, by decide +kernel⟩
theorem ok_mvInit {fd : FuncData} (F : Fun K "__init__" "BadMove.__init__" sMvInit fI fd) (T : XMv K mg CM fI) : FnOk P w K mg base CX0 1 fI fd ["self", "index"] (spX1 CM "index") := by
  refine F.ok scMvInit (fun vs H Q E h => ?_) (fun cdv A outer s H vs Q E hr h => ?_)
  · obtain ⟨a, v, rfl, _⟩ := h
    rfl
  · obtain ⟨a, v, rfl, ha, k⟩ := h
    exact ⟨_, pss_one (ps_ost (pv 0) (pv 1)), _, rfl, _, rfl, a, CM, rfl, T.xc.o, T.n, .inl ⟨ha, fun dx n ne => k dx n ne⟩⟩
/-- what is raised: an error of the class at C, its index i -/
def RaisedI (C : Addr) (i : Nat) (H : Hp) (E : XK) : Prop := ∀ (d : Addr) (H' : Hp), Same H H' → H' d = some (.xd [("index", .int (i : Nat))]) → E (.ref C) (some d) H'
end
end Y
set_option Elab.async false
set_option linter.all false
set_option maxRecDepth 100000
set_option maxHeartbeats 4000000
namespace Y
open PySem L2
/-! ### rows of moves played, whatever they are -/
structure DRow (K : PySem.W.Frag) (H : Hp) (l : Addr) (ds : List PyData) : Prop where
  ex : ∃ ys, SqA K H l ys ∧ Dqs K H ds ys
  small : ∀ d ∈ ds, ∀ es, d = .tuple es → es.length ≤ 100
structure StOk (n : Nat) (ts : List (Int × Int)) (rs : List (List Int)) (st : List Int) : Prop where
  n1000 : n ≤ 1000
  rok : ∀ r ∈ rs, RingOk n r
  tok : ∀ t ∈ ts, TieOk n t
  len : st.length = n
  pos : ∀ z ∈ st, 0 ≤ z
def spAllX (K : PySem.W.Frag) (CM : Addr) : Sp := fun vs H Q E => ∃ (x s l : Addr) (n : Nat) (ts : List (Int × Int)) (rs : List (List Int)) (st : List Int) (ds : List PyData), vs = [.ref x, .ref s, .ref l] ∧ YObj K H x n ts rs ∧ StOk n ts rs st ∧ SqA K H s (st.map V.int) ∧ DRow K H l ds ∧
  (∀ st', runD ts rs 0 st ds = .inr st' → ∀ t H', SqT K H' t (st'.map V.int) → (SqL K H s (st.map V.int) → PlT H' t) → Same H H' → Q (.ref t) H') ∧ (∀ i, runD ts rs 0 st ds = .inl i → ∀ H', Same H H' → RaisedI CM i H' E)
theorem drop_get {α : Type} : ∀ {l : List α} {i : Nat} {x : α}, l[i]? = some x → l.drop i = x :: l.drop (i + 1)
  | [], i, x, h => by simp at h
  | a :: l, 0, x, h => by cases Option.some.inj h; rfl
  | a :: l, i + 1, x, h => drop_get (l := l) (i := i) (x := x) h
section
variable {P : Program} {w : World} {K : PySem.W.Frag} {mg : Str → Option Value} {base : Heap} {fInt fRow fIsS fMove fCan fBeh fAll fCnt CM fI : Addr}
theorem scBehindAll : FnScope ["yard", "stand", "moves", "now", "index", "move"] ["yard", "stand", "moves"] (defScope sBehindAll) := ⟨rfl, rfl, rfl, by decide +kernel, rfl, by decide +kernel, by decide +kernel⟩
theorem ok_allX {f : Addr} {fd fdM fdC fdB fdI : FuncData} (F : Fun K "behind_all" "behind_all" sBehindAll f fd) (T : TPl K mg fInt fRow fIsS fMove fCan fBeh fAll fCnt) (TX : XMv K mg CM fI) (GM : FnOk P w K mg base CX0 2 fMove fdM ["yard", "value"] (spIsMoveD K)) (FM : Fun K "is_move" "is_move" sIsMove fMove fdM) (bM : Binds K fdM ["yard", "value"] [])
    (FC : Fun K "can_be_made" "can_be_made" sCanBe fCan fdC) (bC : Binds K fdC ["stand", "move"] []) (FB : Fun K "behind_move" "behind_move" sBehind fBeh fdB) (bB : Binds K fdB ["yard", "stand", "move"] []) (GX : FnOk P w K mg base CX0 1 fI fdI ["self", "index"] (spX1 CM "index")) (bX : Binds K fdI ["self", "index"] []) :
    FnOk P w K mg base (L2.CX P w) 3 f fd ["yard", "stand", "moves"] (spAllX K CM) := by
  have GC : FnOk P w K mg base CX0 1 fCan fdC ["stand", "move"] (spCanB K) := ok_canB FC
  have GB : FnOk P w K mg base CX0 1 fBeh fdB ["yard", "stand", "move"] (spBehind K) := ok_behind FB ⟨T.i, T.enum⟩
  refine F.okX scBehindAll (fun vs H Q E h => ?_) (fun cdv A outer s H vs Q E hr h => ?_)
  · obtain ⟨x, s, l, n, ts, rs, st, ds, rfl, _⟩ := h
    rfl
  · obtain ⟨x, s, l, n, ts, rs, st, ds, rfl, hy, ok, hs, ⟨⟨ys, hl, hd⟩, small⟩, k1, k2⟩ := h
    have hr1 : Room 1 _ := hr.mono (by decide)
    refine ⟨_, pss_cons (ps_set (i := 3) scBehindAll.nd rfl (Or.inl rfl) (pv 1))
      (pss_cons (ps_for (passes_of rfl) rfl (pi_enumV (by rfl) T.enum (pv 2)) (pg_tup rfl (pgs_cons (pg_name (i := 4) scBehindAll.nd rfl (Or.inl rfl)) (pgs_cons (pg_name (i := 5) scBehindAll.nd rfl (Or.inl rfl)) pgs_nil)))
        (pss_cons (ps_if (PW.pt (pw_or (pt_not (pt_val (pe_call GM hr (by rfl) T.gMove FM.kp bM .nil pass0 (pa_cons (pv 0) (pa_cons (pv 5) pa_nil))))) (pw_or1 (pt_not (pt_val (pe_call GC hr1 (by rfl) T.gCan FC.kp bC .nil pass0 (pa_cons (pv 3) (pa_cons (pv 5) pa_nil))))))))
          (pss_one (ps_raise rfl (takes_of rfl rfl rfl rfl) (pmk_oex TX.xc.o TX.i TX.t GX hr bX .nil pass0 (by rfl) TX.g (pa_cons (pv 4) pa_nil)))) pss_nil)
        (pss_one (ps_set (i := 3) scBehindAll.nd rfl (Or.inl rfl) (pe_call GB hr1 (by rfl) T.gBeh FB.kp bB .nil pass0 (pa_cons (pv 0) (pa_cons (pv 3) (pa_cons (pv 5) pa_nil))))))))
      (pss_one (ps_ret (pe_callTy call_tupF (by rfl) T.i.tuple (by decide +kernel) (pa_cons (pv 3) pa_nil))))), ?_⟩
    have hlen := dqs_len hd
    refine ⟨_, rfl, l, ys, H, rfl, hl, .refl H, fun J G w1 hG => ?_⟩
    refine for_it w1 (fun i σ H' => ∃ (cur : Addr) (v4 v5 : Option V) (now : List Int), σ = [some (.ref x), some (.ref s), some (.ref l), some (.ref cur), v4, v5] ∧ SqA K H' cur (now.map V.int) ∧ (SqL K H s (st.map V.int) → SqL K H' cur (now.map V.int)) ∧ now.length = n ∧ (∀ z ∈ now, 0 ≤ z) ∧ runD ts rs 0 st ds = runD ts rs i now (ds.drop i) ∧ Same H H')
      ⟨s, none, none, st, rfl, hs, fun z => z, ok.len, ok.pos, rfl, Same.refl' H⟩ (fun i σ H' _ ⟨_, _, _, _, _, _, _, _, _, _, s⟩ => hG H' (.of_same s)) ?_ ?_
    · rintro i v σ H2 H3 hi ⟨cur, v4, v5, now, rfl, hc, hcl, ln, ps, er, s2⟩ ⟨T1, u, y, rfl, nT, rfl, e1, e2⟩
      cases Option.some.inj e1
      obtain ⟨d, ed, hdq⟩ := dqs_get hd e2
      have s3 := s2.trans (Same.new (o := .tup [.int (i : Nat), y]) nT)
      have hc3 := Same.seqA (Same.new (o := .tup [.int (i : Nat), y]) nT) hc
      rw [drop_get ed] at er
      refine ⟨T1, _, rfl, SqT.of upd_same, rfl, _, _, rfl, _, _, rfl, rfl, ?_⟩
      have raised : stepD ts rs now d = none → ∀ H4, Same H H4 → RaisedI CM i H4 E := fun h => k2 i (er.trans (runD_cons_none h))
      refine ⟨_, rfl, _, rfl, x, y, n, ts, rs, d, rfl, hy.kp (.of_same s3), Dq.kp s3 hdq, small d (List.mem_of_getElem? ed), fun H4 b s4 hb => ⟨_, rfl, ?_⟩⟩
      have s34 := s3.trans s4
      cases b with
      | false =>
        have none1 : stepD ts rs now d = none := stepD_none fun m e hin => absurd (hb.mpr ⟨m, e, hin⟩) Bool.false_ne_true
        refine iteT ⟨_, rfl, ?_⟩
        exact mk1 fun dd H5 s5 _ e5 => raised none1 _ s34 dd H5 s5 e5
      | true =>
        obtain ⟨m, em, hin⟩ := hb.mp rfl
        have hm := dq_mv hdq em
        have hc4 := Same.seqA s4 hc3
        refine iteF ?_
        refine ⟨_, rfl, _, rfl, cur, y, n, ts, rs, now, m, rfl, hc4, ln, ok.tok, ps, hm.kp (.of_same s34), hin, _, rfl, ?_⟩
        cases hcan : canB now m with
        | false =>
          have none2 : stepD ts rs now d = none := stepD_none fun m' e' _ => by rw [← mvD_inj (em.symm.trans e')]; exact hcan
          refine iteT ⟨_, rfl, ?_⟩
          exact mk1 fun dd H5 s5 _ e5 => raised none2 _ s34 dd H5 s5 e5
        | true =>
          have cm := can_of ok.tok hin hcan
          refine iteF ?_
          refine ⟨_, rfl, _, rfl, _, rfl, x, cur, y, n, ts, rs, now, m, rfl, hy.kp (.of_same s34), ok.n1000, ok.rok, hc4, ln, hm.kp (.of_same s34), cm, fun g H5 eg s5 => ?_⟩
          exact ⟨g, _, _, stepMv rs now m, rfl, .inl (SqL.of eg), fun _ => SqL.of eg, by rw [stepMv_len, ln], step_pos ps, er.trans (runD_cons_some (stepD_some em hin hcan)), s34.trans s5⟩
    · rintro σ H2 ⟨cur, v4, v5, now, rfl, hc, hcl, ln, ps, er, s2⟩
      rw [hlen, List.drop_length] at er
      have made : SqL K H2 cur (now.map V.int) → tCB (rTupF K) (tCons (tVar 3) tNil) [some (.ref x), some (.ref s), some (.ref l), some (.ref cur), v4, v5] H2 Q := fun z => ⟨_, rfl, cur, _, rfl, .inl ⟨z, fun t H3 h3 => k1 now er t H3 h3.sq (fun _ => h3.pl) (s2.trans h3.same)⟩⟩
      by_cases il : SqL K H s (st.map V.int)
      · exact made (hcl il)
      · rcases hc with hc | hc
        · exact made hc
        · exact ⟨_, rfl, cur, _, rfl, .inr ⟨hc, k1 now er cur H2 hc (fun z => (il z).elim) s2⟩⟩
end
end Y
set_option Elab.async false
set_option linter.all false
set_option maxRecDepth 100000
set_option maxHeartbeats 4000000
namespace Y
open PySem L2
abbrev sFilled : Stmt := top 17
abbrev sThings : Stmt := top 999
abbrev sIsFilled : Stmt := top 18
abbrev sMovesAt : Stmt := top 20
abbrev sLed : Stmt := top 24
theorem ints_shapedL (ns : List Int) : SeqAt.shaped (.list (ns.map PyData.int)) = true := by
  unfold SeqAt.shaped
  have h1 : (PyData.list (ns.map PyData.int)).canLay0 = true := lay_ints ns
  have h2 : (PyData.list (ns.map PyData.int)).depth ≤ 64 := Nat.le_trans (Nat.succ_le_succ (depth_ints ns)) (by decide)
  rw [h1, decide_eq_true h2]
  rfl
/-! ### the filled places of a stand -/
def filTo (st : List Int) (m : Nat) : List Int := ((List.range m).filter fun i : Nat => decide (st.getD i 0 ≠ 0)).map fun i : Nat => ((i : Nat) : Int)
def filL (st : List Int) : List Int := filTo st st.length
theorem filTo_succ (st : List Int) (m : Nat) : filTo st (m + 1) = if st.getD m 0 ≠ 0 then filTo st m ++ [(m : Int)] else filTo st m := by
  unfold filTo
  rw [List.range_succ, List.filter_append, List.map_append]
  by_cases h : st.getD m 0 ≠ 0
  · rw [if_pos h, List.filter_cons_of_pos (by rw [decide_eq_true h])]
    rfl
  · rw [if_neg h, List.filter_cons_of_neg (by rw [decide_eq_false h]; exact Bool.false_ne_true)]
    simp
theorem filTo_len (st : List Int) : ∀ m, (filTo st m).length ≤ m
  | 0 => Nat.zero_le _
  | m + 1 => by
    have := filTo_len st m
    rw [filTo_succ]
    split
    · rw [List.length_append]; show _ + 1 ≤ m + 1; omega
    · omega
def nz (st : List Int) : List Int := st.filter fun z => decide (z ≠ 0)
def spFilled (K : PySem.W.Frag) : Sp := fun vs H Q _ => ∃ (s : Addr) (st : List Int), vs = [.ref s] ∧ SqA K H s (st.map V.int) ∧ st.length ≤ 1000 ∧ ∀ t H', SqT K H' t ((filL st).map V.int) → PlT H' t → Same H H' → Q (.ref t) H'
def spThings (K : PySem.W.Frag) : Sp := fun vs H Q _ => ∃ (s : Addr) (st : List Int), vs = [.ref s] ∧ SqA K H s (st.map V.int) ∧ st.length ≤ 1000 ∧ ∀ (t : Addr) (ms : List Int) (H' : Hp), ms.Perm (nz st) → ms.Pairwise (· ≤ ·) → SqT K H' t (ms.map V.int) → Same H H' → Q (.ref t) H'
/-- an ascending row of unlike places -/
structure FilOk (n : Nat) (r : List Int) : Prop where
  asc : r.Pairwise (· < ·)
  inn : ∀ z ∈ r, 0 ≤ z ∧ z < n
theorem FilOk.nodup {n : Nat} {r : List Int} (h : FilOk n r) : r.Nodup := h.asc.imp fun a => Int.ne_of_lt a
theorem asc_len : ∀ {r : List Int} {lo n : Int}, r.Pairwise (· < ·) → (∀ z ∈ r, lo ≤ z ∧ z < n) → (r.length : Int) ≤ max 0 (n - lo)
  | [], lo, n, _, _ => by simp only [List.length_nil]; omega
  | a :: l, lo, n, h, b => by
    have h1 := List.pairwise_cons.mp h
    have b0 := b a List.mem_cons_self
    have ih := asc_len (lo := a + 1) h1.2 (fun z hz => ⟨h1.1 z hz, (b z (List.mem_cons_of_mem _ hz)).2⟩)
    rw [List.length_cons]
    omega
theorem FilOk.len {n : Nat} {r : List Int} (h : FilOk n r) : r.length ≤ n := by
  have := asc_len h.asc h.inn
  omega
theorem nz_snoc (l : List Int) (z : Int) : nz (l ++ [z]) = if z ≠ 0 then nz l ++ [z] else nz l := by
  unfold nz
  rw [List.filter_append]
  by_cases h : z ≠ 0
  · rw [if_pos h, List.filter_cons_of_pos (by rw [decide_eq_true h])]
    rfl
  · rw [if_neg h, List.filter_cons_of_neg (by rw [decide_eq_false h]; exact Bool.false_ne_true)]
    simp
def spIsFilled (K : PySem.W.Frag) : Sp := fun vs H Q _ => ∃ (x : Addr) (y : V) (n : Nat) (ts : List (Int × Int)) (rs : List (List Int)) (r : List Int), vs = [.ref x, y] ∧ YObj K H x n ts rs ∧ RowAt K H y r ∧ FilOk n r ∧ n ≤ 60 ∧ ∀ H', Same H H' → Q (.bl true) H'
structure TR (K : PySem.W.Frag) (mg : Str → Option Value) (fUn : Addr) : Prop where
  i : TI0 mg
  enum : mg "enumerate" = none
  sorted : mg "sorted" = none
  range : mg "range" = none
  len : mg "len" = none
  gUn : mg "are_unlike_numbers" = some (.ref fUn)
section
variable {P : Program} {w : World} {K : PySem.W.Frag} {mg : Str → Option Value} {base : Heap} {fUn : Addr}
theorem scFilled : FnScope ["stand", "place", "thing"] ["stand"] (defScope sFilled) := ⟨rfl, rfl, rfl, by decide +kernel, rfl, by decide +kernel, by decide +kernel⟩
theorem ok_filled {f : Addr} {fd : FuncData} (F : Fun K "filled" "filled" sFilled f fd) (T : TR K mg fUn) : FnOk P w K mg base CX0 1 f fd ["stand"] (spFilled K) := by
  refine F.ok scFilled (fun vs H Q E h => ?_) (fun cdv A outer s H vs Q E hr h => ?_)
  · obtain ⟨s, st, rfl, _⟩ := h
    rfl
  · obtain ⟨s, st, rfl, hs, hl, k⟩ := h
    refine ⟨_, pss_one (ps_ret (pe_callTy call_tupF (by rfl) T.i.tuple (by decide +kernel) (pa_cons
      (pe_lc (own := [("place", 1), ("thing", 2)]) (g := gTup K 2 (gCons (gName 1) (gCons (gName 2) gNil))) rfl scFilled.nd (pi_enumV (by rfl) T.enum (pv 0)) (blkOk_by (N := ["stand", "place", "thing"]) (sc := defScope sFilled) (by decide +kernel))
        (fun _ _ _ _ _ => pgT (K := K) (n := 2) rfl rfl (pgs_cons (pg_name (i := 1) scFilled.nd rfl (Or.inl rfl)) (pgs_cons (pg_name (i := 2) scFilled.nd rfl (Or.inl rfl)) pgs_nil)) rfl rfl)
        (fun _ _ _ _ _ => pts_one (pt_cmpR op_ne (pv 2) pe_int (nomark _))) (fun _ _ _ _ _ => pv 1)) pa_nil))), ?_⟩
    refine ⟨s, st.map V.int, H, rfl, hs, .refl H, fun J G w1 hG D hD => ?_⟩
    refine lc_it w1 (fun i H' => H' D = some (.lst ((filTo st i).map V.int)) ∧ Same H H') ⟨upd_same, Same.new hD⟩ (fun i H' _ h => hG H' (.of_same h.2)) ?_ ?_
    · rintro i v H1 H2 hi ⟨eD, s1⟩ ⟨T1, u, y, rfl, nT, rfl, e1, e2⟩
      cases Option.some.inj e1
      rw [List.length_map] at hi
      have hy := e2.symm.trans (getD_at hi)
      cases Option.some.inj hy
      have e3 := Same.new nT (o := .tup [.int (i : Nat), .int (st.getD i 0)]) _ _ eD
      have s2 := s1.trans (Same.new (o := .tup [.int (i : Nat), .int (st.getD i 0)]) nT)
      refine ⟨T1, _, rfl, SqT.of upd_same, rfl, _, _, rfl, _, _, rfl, rfl, rfl, ?_⟩
      refine ⟨_, rfl, rfl, _, rfl, ?_⟩
      by_cases h0 : st.getD i 0 ≠ 0
      · rw [show (!decide (V.int (st.getD i 0) = V.int 0)) = true by rw [decide_eq_false (fun z => h0 (by injection z))]; rfl]
        refine iteT ⟨_, rfl, (filTo st i).map V.int, e3, ?_, ?_, Same.upd_new s2 hD⟩
        · have := filTo_len st i
          rw [List.length_map]
          exact Nat.lt_of_le_of_lt (by omega : _ ≤ 1000) (by decide)
        · rw [upd_same, filTo_succ, if_pos h0, List.map_append]
          rfl
      · have z0 : st.getD i 0 = 0 := Classical.not_not.mp h0
        rw [show (!decide (V.int (st.getD i 0) = V.int 0)) = false by rw [z0]; rfl]
        refine iteF ⟨?_, s2⟩
        rw [filTo_succ, if_neg h0]
        exact e3
    · rintro H1 ⟨eD, s1⟩
      rw [List.length_map] at eD
      exact ⟨D, _, rfl, .inl ⟨SqL.of eD, fun t H' nt => k t H' nt.sq nt.pl (s1.trans nt.same)⟩⟩
theorem scIsFilled : FnScope ["yard", "value"] ["yard", "value"] (defScope sIsFilled) := ⟨rfl, rfl, rfl, by decide +kernel, rfl, by decide +kernel, by decide +kernel⟩
theorem asc_eq {r ms : List Int} (h : r.Pairwise (· < ·)) (p : ms.Perm r) (q : ms.Pairwise (· ≤ ·)) : ms = r :=
  p.eq_of_pairwise (le := fun a b : Int => decide (a ≤ b) = true) (fun a b _ _ h1 h2 => Int.le_antisymm (of_decide_eq_true h1) (of_decide_eq_true h2)) (q.imp fun h => decide_eq_true h) (h.imp fun h => decide_eq_true (Int.le_of_lt h))
theorem ok_isFilled {f : Addr} {fd fdU : FuncData} (F : Fun K "is_filled_row" "is_filled_row" sIsFilled f fd) (T : TR K mg fUn) (GU : FnOk P w K mg base CX0 3 fUn fdU ["many", "value"] (spUnlike K)) (FU : Fun K "are_unlike_numbers" "are_unlike_numbers" sUnlike fUn fdU) (bU : Binds K fdU ["many", "value"] []) :
    FnOk P w K mg base CX0 4 f fd ["yard", "value"] (spIsFilled K) := by
  refine F.ok scIsFilled (fun vs H Q E h => ?_) (fun cdv A outer s H vs Q E hr h => ?_)
  · obtain ⟨x, y, n, ts, rs, r, rfl, _⟩ := h
    rfl
  · obtain ⟨x, y, n, ts, rs, r, rfl, hy, ⟨b, rfl, hb⟩, ok, n60, k⟩ := h
    refine ⟨_, pss_one (ps_ret (pe_and (pe_call GU hr (by rfl) T.gUn FU.kp bU .nil pass0 (pa_cons (pe_fld (pv 0) rfl) (pa_cons (pv 1) pa_nil))) (pe_one (pe_cmpR (op_eqD hr.units) (pe_callB cr_sortedA (by rfl) T.sorted (by decide +kernel) (pa_cons (pv 1) pa_nil)) (pe_callTy call_list_of (by rfl) T.i.list (by decide +kernel) (pa_cons (pv 1) pa_nil)) (nomark _))))), ?_⟩
    obtain ⟨C, dx, a, e, fs, tys, zs, hx, yc, lp, lt, lr, ha, pa, he, pe⟩ := id hy
    have l60 := ok.len
    refine ⟨_, rfl, x, C, dx, fs, _, rfl, hx, yc.c, yc.p, lp, _, rfl, n, _, r, rfl, ⟨b, rfl, hb⟩, ok.inn, ok.nodup, by omega, fun H1 s1 => ⟨true, rfl, iteT ?_⟩⟩
    have hb1 := Same.seqA s1 hb
    refine ⟨_, rfl, b, r, rfl, hb1, by omega, fun ms p pm asc np => ?_⟩
    obtain rfl := asc_eq ok.asc pm asc
    have s2 := s1.trans (Same.new (o := .lst (ms.map V.int)) np)
    refine ⟨_, rfl, b, _, rfl, Same.seqA s2 hb, fun l nl => ?_⟩
    have s3 := s2.trans (Same.new (o := .lst (ms.map V.int)) nl)
    refine ⟨.list (ms.map PyData.int), .list (ms.map PyData.int), .lst (SqL.of (Same.new nl _ _ upd_same)) (ints_dp ms), .lst (SqL.of upd_same) (ints_dp ms), ints_shapedL ms, ints_shapedL ms, ?_⟩
    rw [show PyData.eqv (.list (ms.map PyData.int)) (.list (ms.map PyData.int)) = true from ints_self ms]
    exact k _ s3
end
end Y
set_option Elab.async false
set_option linter.all false
set_option maxRecDepth 100000
set_option maxHeartbeats 4000000
namespace Y
open PySem L2
/-! ### rows of unlike places, filled rows: of any data -/
def rowOf : PyData → Option (List PyData)
  | .list es => some es
  | .tuple es => some es
  | _ => none
def belowB (n : Nat) : PyData → Bool
  | .int z => decide (0 ≤ z) && decide (z < n)
  | _ => false
def numsOf (es : List PyData) : List Int := es.filterMap fun | .int z => some z | _ => none
def unB (n : Nat) (d : PyData) : Bool := match rowOf d with
  | some es => es.all (belowB n) && decide (numsOf es).Nodup
  | none => false
def filB (n : Nat) (d : PyData) : Bool := unB n d && decide ((numsOf ((rowOf d).getD [])).Pairwise (· ≤ ·))
def short63 (d : PyData) : Prop := ∀ es, rowOf d = some es → es.length < 64
theorem all_below {n : Nat} : ∀ {es : List PyData}, es.all (belowB n) = true → es = (numsOf es).map PyData.int ∧ ∀ z ∈ numsOf es, 0 ≤ z ∧ z < n
  | [], _ => ⟨rfl, fun z hz => by cases hz⟩
  | e :: es, h => by
    rw [List.all_cons, Bool.and_eq_true] at h
    obtain ⟨h1, h2⟩ := all_below h.2
    cases e with
    | int z =>
      have h0 : (decide (0 ≤ z) && decide (z < n)) = true := h.1
      rw [Bool.and_eq_true, decide_eq_true_iff, decide_eq_true_iff] at h0
      have e1 : numsOf (.int z :: es) = z :: numsOf es := rfl
      rw [e1]
      refine ⟨by rw [List.map_cons, ← h1], fun y hy => ?_⟩
      rcases List.mem_cons.mp hy with rfl | hy
      · exact h0
      · exact h2 y hy
    | _ => exact absurd h.1 (by simp [belowB])
theorem dqs_ints {K : PySem.W.Frag} {H : Hp} : ∀ {ns : List Int} {vs : List V}, Dqs K H (ns.map PyData.int) vs → vs = ns.map V.int
  | [], _, h => by cases h; rfl
  | n :: ns, _, h => by
    cases h with
    | cons a t => cases a; rw [List.map_cons, dqs_ints t]
def spUnlikeD (K : PySem.W.Frag) : Sp := fun vs H Q _ => ∃ (n : Nat) (y : V) (d : PyData), vs = [.int (n : Int), y] ∧ Dq K H d y ∧ short63 d ∧ ∀ H', Same H H' → Q (.bl (unB n d)) H'
def spFilD (K : PySem.W.Frag) : Sp := fun vs H Q _ => ∃ (x : Addr) (y : V) (n : Nat) (ts : List (Int × Int)) (rs : List (List Int)) (d : PyData), vs = [.ref x, y] ∧ YObj K H x n ts rs ∧ Dq K H d y ∧ short63 d ∧ ∀ H', Same H H' → Q (.bl (filB n d)) H'
def fBl (n : Nat) : V → V
  | .int z => .bl (decide (0 ≤ z) && decide (z < n))
  | _ => .bl false
theorem fBl_dq {K : PySem.W.Frag} {H : Hp} {n : Nat} {d : PyData} {v : V} (h : Dq K H d v) : fBl n v = .bl (belowB n d) := by cases h <;> rfl
theorem fBl_dqs {K : PySem.W.Frag} {H : Hp} {n : Nat} : ∀ {ds : List PyData} {vs : List V}, Dqs K H ds vs → vs.map (fBl n) = (ds.map (belowB n)).map V.bl
  | _, _, .nil => rfl
  | _, _, .cons h t => by rw [List.map_cons, List.map_cons, List.map_cons, fBl_dq h, fBl_dqs t]
theorem row_of2 {K : PySem.W.Frag} {H : Hp} {d : PyData} {y : V} {es : List PyData} (h : Dq K H d y) (r : rowOf d = some es) : ∃ (b : Addr) (xs : List V), y = .ref b ∧ SqA K H b xs ∧ Dqs K H es xs := by
  cases h with
  | lst h t => cases Option.some.inj r; exact ⟨_, _, rfl, .inl h, t⟩
  | tup h t => cases Option.some.inj r; exact ⟨_, _, rfl, .inr h, t⟩
  | _ => cases r
theorem row_none {d : PyData} (h : rowOf d = none) : isRowB d = false := by cases d <;> first | rfl | cases h
theorem row_some {d : PyData} {es : List PyData} (h : rowOf d = some es) : isRowB d = true := by cases d <;> first | rfl | cases h
section
variable {P : Program} {w : World} {K : PySem.W.Frag} {mg : Str → Option Value} {base : Heap} {fInt fRow fUn fCnt fFil : Addr}
theorem ok_unlikeD {f : Addr} {fd fdI fdR fdC : FuncData} (F : Fun K "are_unlike_numbers" "are_unlike_numbers" sUnlike f fd) (T : TUn K mg fInt fRow fUn fCnt) (FI : Fun K "is_integer" "is_integer" sIsInt fInt fdI) (bI : Binds K fdI ["value"] []) (FR : Fun K "is_row" "is_row" sIsRow fRow fdR) (bR : Binds K fdR ["value"] [])
    (FC : Fun K "is_count" "is_count" sIsCount fCnt fdC) (bC : Binds K fdC ["value"] []) : FnOk P w K mg base CX0 3 f fd ["many", "value"] (spUnlikeD K) := by
  have GC : FnOk P w K mg base CX0 2 fCnt fdC ["value"] (spIsCountD K) := ok_isCountD FC T.i T.gInt FI bI
  have GR : FnOk P w K mg base CX0 2 fRow fdR ["value"] (spIsRowD K) := (ok_isRowD FR T.i).mono (by decide)
  refine F.ok scUnlike (fun vs H Q E h => ?_) (fun cdv A outer s H vs Q E hr h => ?_)
  · obtain ⟨n, y, d, rfl, _⟩ := h
    rfl
  · obtain ⟨n, y, d, rfl, hd, sh, k⟩ := h
    refine ⟨_, pss_cons (ps_if (PW.pt (pw_or (pt_not (pt_val (pe_call GR hr (by rfl) T.gRow FR.kp bR .nil pass0 (pa_cons (pv 1) pa_nil)))) (pw_or1 (pt_not (pt_val (pe_callB (cr_all rfl) (by rfl) T.all (by decide +kernel) (pa_cons (pe_lc (own := [("number", 2)]) (g := gName 2) (tt := tYes) rfl scUnlike.nd (pi_seqV (pv 1)) (blkOk_by (N := ["many", "value", "number"]) (sc := defScope sUnlike) (by decide +kernel))
          (fun _ _ _ _ _ => pg_name (i := 2) scUnlike.nd rfl (Or.inl rfl)) (fun _ _ _ _ _ => pts_nil) (fun _ _ _ _ _ => pe_and (pe_call GC hr (by rfl) T.gCnt FC.kp bC .nil pass0 (pa_cons (pv 2) pa_nil)) (pe_one (pe_cmpR op_lt (pv 2) (pv 0) (nomark _))))) pa_nil)))))) ) (pss_one (ps_ret pe_bl)) pss_nil)
      (pss_one (ps_ret (pe_cmpR op_eq (pe_lenSet3 rfl (by rfl) T.len (by rfl) T.set (pv 1)) (pe_callB call_len_seq (by rfl) T.len PySem.boot_len (pa_cons (pv 1) pa_nil)) (nomark _)))), ?_⟩
    refine ⟨_, rfl, _, d, rfl, hd, fun H1 s1 => ⟨_, rfl, ?_⟩⟩
    cases hro : rowOf d with
    | none =>
      rw [row_none hro]
      have e : unB n d = false := by unfold unB; rw [hro]
      rw [e] at k
      exact iteT (k H1 s1)
    | some es =>
      rw [row_some hro]
      obtain ⟨b, xs, rfl, hb, hes⟩ := row_of2 hd hro
      have le := dqs_len hes
      have l64 := sh es hro
      have e : unB n d = (es.all (belowB n) && decide (numsOf es).Nodup) := by unfold unB; rw [hro]
      rw [e] at k
      refine iteF ?_
      refine ⟨b, xs, H, rfl, hb, .of_same s1, fun J G w1 hG D hD => ?_⟩
      refine lcp_it (f := fBl n) (H1 := H1) w1 hD (by omega) (fun H' s' => hG H' ((Kp.of_same s1).trans s')) (fun i x0 H2 R hx s2 hR => ?_) ?_
      · obtain ⟨d0, _, hd0⟩ := dqs_get hes hx
        refine ⟨rfl, _, rfl, _, _, rfl, Dq.kp (s1.trans s2) hd0, ?_⟩
        refine ⟨isCnt d0, rfl, ?_⟩
        cases hd0 with
        | int z =>
          refine ifT (fun h => ?_) (fun h => ?_)
          · refine ⟨_, rfl, _, rfl, _, _, rfl, rfl, ?_⟩
            have hR' : R (.bl (decide (0 ≤ z) && decide (z < n))) H2 := hR
            rw [show decide (0 ≤ z) = true from h, Bool.true_and] at hR'
            exact hR'
          · have hR' : R (.bl (decide (0 ≤ z) && decide (z < n))) H2 := hR
            have h' : decide (0 ≤ z) = false := h
            rw [h', Bool.false_and] at hR'
            exact hR'
        | _ => exact iteF hR
      · have s2 := s1.trans (Same.new (o := .lst (xs.map (fBl n))) hD)
        refine ⟨D, es.map (belowB n), rfl, ?_, ?_⟩
        · rw [← fBl_dqs hes]
          exact SqL.of upd_same
        rw [List.all_map]
        refine ⟨_, rfl, ?_⟩
        cases hall : es.all (belowB n) with
        | false =>
          rw [hall, Bool.false_and] at k
          rw [show es.all (id ∘ belowB n) = false from hall]
          exact iteT (k _ s2)
        | true =>
          rw [hall, Bool.true_and] at k
          rw [show es.all (id ∘ belowB n) = true from hall]
          obtain ⟨e1, _⟩ := all_below hall
          rw [e1] at hes
          have ex := dqs_ints hes
          have ln : (numsOf es).length = es.length := by
            have := congrArg List.length e1
            rw [List.length_map] at this
            exact this.symm
          subst ex
          refine iteF ?_
          refine ⟨_, rfl, b, numsOf es, rfl, Same.seqA s2 hb, by omega, fun c hc iff => ?_⟩
          refine ⟨_, rfl, b, _, rfl, Same.seqA s2 hb, rfl, ?_⟩
          rw [List.length_map]
          have e2 : (decide (V.int (c : Int) = V.int ((numsOf es).length : Nat))) = decide (numsOf es).Nodup := by
            rw [Bool.eq_iff_iff, decide_eq_true_iff, decide_eq_true_iff, ← iff]
            exact ⟨fun z => by injection z with z; omega, fun z => by rw [z]⟩
          rw [e2]
          exact k _ s2
/-! ### filled rows -/
theorem ok_isFilledD {f : Addr} {fd fdU : FuncData} (F : Fun K "is_filled_row" "is_filled_row" sIsFilled f fd) (T : TR K mg fUn) (GU : FnOk P w K mg base CX0 3 fUn fdU ["many", "value"] (spUnlikeD K)) (FU : Fun K "are_unlike_numbers" "are_unlike_numbers" sUnlike fUn fdU) (bU : Binds K fdU ["many", "value"] []) :
    FnOk P w K mg base CX0 4 f fd ["yard", "value"] (spFilD K) := by
  refine F.ok scIsFilled (fun vs H Q E h => ?_) (fun cdv A outer s H vs Q E hr h => ?_)
  · obtain ⟨x, y, n, ts, rs, d, rfl, _⟩ := h
    rfl
  · obtain ⟨x, y, n, ts, rs, d, rfl, hy, hd, sh, k⟩ := h
    refine ⟨_, pss_one (ps_ret (pe_and (pe_call GU hr (by rfl) T.gUn FU.kp bU .nil pass0 (pa_cons (pe_fld (pv 0) rfl) (pa_cons (pv 1) pa_nil))) (pe_one (pe_cmpR (op_eqD hr.units) (pe_callB cr_sortedA (by rfl) T.sorted (by decide +kernel) (pa_cons (pv 1) pa_nil)) (pe_callTy call_list_of (by rfl) T.i.list (by decide +kernel) (pa_cons (pv 1) pa_nil)) (nomark _))))), ?_⟩
    obtain ⟨C, dx, a, e, fs, tys, zs, hx, yc, lp, lt, lr, ha, pa, he, pe⟩ := id hy
    refine ⟨_, rfl, x, C, dx, fs, _, rfl, hx, yc.c, yc.p, lp, _, rfl, n, _, d, rfl, hd, sh, fun H1 s1 => ⟨_, rfl, ?_⟩⟩
    cases hu : unB n d with
    | false =>
      rw [show filB n d = false by unfold filB; rw [hu]; rfl] at k
      exact iteF (k H1 s1)
    | true =>
      refine iteT ?_
      unfold unB at hu
      cases hro : rowOf d with
      | none => rw [hro] at hu; cases hu
      | some es =>
        rw [hro] at hu
        have hu : (es.all (belowB n) && decide (numsOf es).Nodup) = true := hu
        rw [Bool.and_eq_true] at hu
        obtain ⟨e1, _⟩ := all_below hu.1
        obtain ⟨b, xs, rfl, hb, hes⟩ := row_of2 hd hro
        have l64 := sh es hro
        have ln : (numsOf es).length = es.length := by
          have := congrArg List.length e1
          rw [List.length_map] at this
          exact this.symm
        have e2 : filB n d = decide ((numsOf es).Pairwise (· ≤ ·)) := by
          unfold filB unB
          rw [hro]
          show ((es.all (belowB n) && decide (numsOf es).Nodup) && decide ((numsOf es).Pairwise (· ≤ ·))) = _
          rw [hu.1, hu.2]
          rfl
        rw [e2] at k
        rw [e1] at hes
        obtain rfl := dqs_ints hes
        have hb1 := Same.seqA s1 hb
        refine ⟨_, rfl, b, numsOf es, rfl, hb1, by omega, fun ms p pm asc np => ?_⟩
        have s2 := s1.trans (Same.new (o := .lst (ms.map V.int)) np)
        refine ⟨_, rfl, b, _, rfl, Same.seqA s2 hb, fun l nl => ?_⟩
        have s3 := s2.trans (Same.new (o := .lst ((numsOf es).map V.int)) nl)
        refine ⟨.list (ms.map PyData.int), .list ((numsOf es).map PyData.int), .lst (SqL.of (Same.new nl _ _ upd_same)) (ints_dp ms), .lst (SqL.of upd_same) (ints_dp _), ints_shapedL ms, ints_shapedL _, ?_⟩
        have e3 : PyData.eqv (.list (ms.map PyData.int)) (.list ((numsOf es).map PyData.int)) = decide ((numsOf es).Pairwise (· ≤ ·)) := by
          have q := eqv_ints ms (numsOf es)
          simp only [PyData.eqv]
          rw [q, Bool.eq_iff_iff, decide_eq_true_iff, decide_eq_true_iff]
          constructor
          · intro z; rw [← z]; exact asc
          · intro z
            exact pm.eq_of_pairwise (le := fun a b : Int => decide (a ≤ b) = true) (fun a b _ _ h1 h2 => Int.le_antisymm (of_decide_eq_true h1) (of_decide_eq_true h2)) (asc.imp fun h => decide_eq_true h) (z.imp fun h => decide_eq_true h)
        rw [e3]
        exact k _ s3
end
end Y
set_option Elab.async false
set_option linter.all false
set_option maxRecDepth 100000
set_option maxHeartbeats 4000000
namespace Y
open PySem L2
/-! ### the law's own move: None where it can't be made -/
def MovedTo (K : PySem.W.Frag) (rs : List (List Int)) (st : List Int) (m : Mv) (v : V) (H' : Hp) : Prop := (canB st m = true ∧ ∃ t, v = .ref t ∧ SqT K H' t ((stepMv rs st m).map V.int) ∧ PlT H' t) ∨ (canB st m = false ∧ v = .non)
def spMovedB (K : PySem.W.Frag) : Sp := fun vs H Q _ => ∃ (q s : Addr) (y : V) (n : Nat) (ts : List (Int × Int)) (rs : List (List Int)) (st : List Int) (m : Mv), vs = [.ref q, .ref s, y] ∧ YdAt K H q n ts rs ∧ n ≤ 100 ∧ (∀ r ∈ rs, RingOk n r) ∧ (∀ t ∈ ts, TieOk n t) ∧ (∀ z ∈ st, 0 ≤ z) ∧ SqT K H s (st.map V.int) ∧ st.length = n ∧ MvAt K H y m ∧ MvIn ts rs m ∧
  ∀ v H', MovedTo K rs st m v H' → Same H H' → Q v H'
section
variable {P : Program} {w : World} {K : PySem.W.Frag} {mg : Str → Option Value} {base : Heap} {fDraw : Addr}
end
end Y
set_option Elab.async false
set_option linter.all false
set_option maxRecDepth 100000
set_option maxHeartbeats 4000000
namespace Y
open PySem L2
theorem op_inK {X : Cx} {K : PySem.W.Frag} (e : X.K = K) : OpR X (compareOp .In) (rIn K false) := by
  subst e
  exact op_in_seq
theorem op_notInK {X : Cx} {K : PySem.W.Frag} (e : X.K = K) : OpR X (compareOp .NotIn) (rIn K true) := by
  subst e
  exact op_notIn_seq
/-! ### the moves that can be made at a filled row -/
def canR (r : List Int) (t : Int × Int) : Bool := decide (t.1 ∈ r) && !decide (t.2 ∈ r)
def movesR (ts : List (Int × Int)) (rs : List (List Int)) (r : List Int) : List Mv := (ts.filter (canR r)).map slideOf ++ turns rs.length
theorem in_ints (a : Int) (r : List Int) : inV (.int a) (r.map V.int) = decide (a ∈ r) := by
  unfold inV
  rw [Bool.eq_iff_iff, List.any_eq_true, decide_eq_true_iff]
  constructor
  · rintro ⟨x, hx, e⟩
    obtain ⟨z, hz, rfl⟩ := List.mem_map.mp hx
    have : z = a := eq_of_beq e
    rw [← this]
    exact hz
  · exact fun h => ⟨.int a, List.mem_map.mpr ⟨a, h, rfl⟩, beq_self_eq_true a⟩
def spMovesAt (K : PySem.W.Frag) : Sp := fun vs H Q _ => ∃ (x : Addr) (y : V) (n : Nat) (ts : List (Int × Int)) (rs : List (List Int)) (r : List Int), vs = [.ref x, y] ∧ YObj K H x n ts rs ∧ RowAt K H y r ∧ FilOk n r ∧ n ≤ 60 ∧ ts.length ≤ 1000 ∧ rs.length ≤ 1000 ∧
  ∀ (t : Addr) (ys : List V) (H' : Hp), SqT K H' t ys → MvsAt K H' ys (movesR ts rs r) → Same H H' → Q (.ref t) H'
section
variable {P : Program} {w : World} {K : PySem.W.Frag} {mg : Str → Option Value} {base : Heap} {fUn fFil : Addr}
theorem scMovesAt : FnScope ["yard", "row", "slides", "a", "b", "turns", "number"] ["yard", "row"] (defScope sMovesAt) := ⟨rfl, rfl, rfl, by decide +kernel, rfl, by decide +kernel, by decide +kernel⟩
theorem ok_movesAt {f : Addr} {fd fdF : FuncData} (F : Fun K "moves_at" "moves_at" sMovesAt f fd) (T : TR K mg fUn) (gF : mg "is_filled_row" = some (.ref fFil)) (GF : FnOk P w K mg base CX0 4 fFil fdF ["yard", "value"] (spIsFilled K)) (FF : Fun K "is_filled_row" "is_filled_row" sIsFilled fFil fdF) (bF : Binds K fdF ["yard", "value"] []) :
    FnOk P w K mg base CX0 5 f fd ["yard", "row"] (spMovesAt K) := by
  refine F.ok scMovesAt (fun vs H Q E h => ?_) (fun cdv A outer s H vs Q E hr h => ?_)
  · obtain ⟨x, y, n, ts, rs, r, rfl, _⟩ := h
    rfl
  · obtain ⟨x, y, n, ts, rs, r, rfl, hy, ⟨rb, rfl, hb⟩, ok, n60, hts, hrs, k⟩ := h
    refine ⟨_, pss_cons (ps_if (pt_not (pt_val (pe_call GF hr (by rfl) gF FF.kp bF .nil pass0 (pa_cons (pv 0) (pa_cons (pv 1) pa_nil))))) (pss_one ps_never) pss_nil)
      (pss_cons (ps_setLc (own := [("a", 3), ("b", 4)]) (i := 2) (g := gTup K 2 (gCons (gName 3) (gCons (gName 4) gNil))) rfl scMovesAt.nd rfl rfl (sw_true rfl rfl rfl (by decide +kernel)) (pi_tup (pe_fld (pv 0) rfl)) (blkOk_by (N := ["yard", "row", "slides", "a", "b", "turns", "number"]) (sc := defScope sMovesAt) (by decide +kernel))
        (fun _ _ _ _ _ => pgT (K := K) (n := 2) rfl rfl (pgs_cons (pg_name (i := 3) scMovesAt.nd rfl (Or.inl rfl)) (pgs_cons (pg_name (i := 4) scMovesAt.nd rfl (Or.inl rfl)) pgs_nil)) rfl rfl)
        (fun _ _ _ _ _ => pts_one (PW.pt (pw_and (pt_cmpR (op_inK (K := K) rfl) (pv 3) (pv 1) (by rfl)) (pw_and1 (pt_cmpR (op_notInK (K := K) rfl) (pv 4) (pv 1) (by rfl))))))
        (fun _ _ _ _ _ => pe_tup (pa_cons pe_str (pa_cons (pv 3) (pa_cons (pv 4) pa_nil)))))
      (pss_cons (ps_setLc (own := [("number", 6)]) (i := 5) (g := gName 6) (tt := tYes) rfl scMovesAt.nd rfl rfl (sw_true rfl rfl rfl (by decide +kernel)) (pi_range1 (by rfl) T.range (pa_cons (pe_callB call_len_seq (by rfl) T.len PySem.boot_len (pa_cons (pe_fld (pv 0) rfl) pa_nil)) pa_nil)) (blkOk_by (N := ["yard", "row", "slides", "a", "b", "turns", "number"]) (sc := defScope sMovesAt) (by decide +kernel))
        (fun _ _ _ _ _ => pg_name (i := 6) scMovesAt.nd rfl (Or.inl rfl)) (fun _ _ _ _ _ => pts_nil) (fun _ _ _ _ _ => pe_tup (pa_cons pe_str (pa_cons (pv 6) pa_nil))))
      (pss_one (ps_ret (pe_callTy call_tupF (by rfl) T.i.tuple (by decide +kernel) (pa_cons (pe_op op_cat (pv 2) (pv 5)) pa_nil)))))), ?_⟩
    refine ⟨_, rfl, _, rfl, x, _, n, ts, rs, r, rfl, hy, ⟨rb, rfl, hb⟩, ok, n60, fun H0 s0 => ⟨_, rfl, iteF ?_⟩⟩
    obtain ⟨C, dx, a, e, fs, ys, zs, hx, yc, lp, lt, lr, ha, pa, he, pe⟩ := hy.kp (.of_same s0)
    have hb0 := Same.seqA s0 hb
    have hyl : ys.length = ts.length := ties_len pa
    have hzl : zs.length = rs.length := Paired.length pe
    refine ⟨_, rfl, x, C, dx, fs, _, rfl, hx, yc.c, yc.t, lt, a, rfl, ⟨_, ha⟩, fun D hD => ?_⟩
    refine lc_tup (K := K) (a := a) (xs := ys) (fun i H' => ∃ ws, H' D = some (.lst ws) ∧ MvsAt K H' ws (((ts.take i).filter (canR r)).map slideOf) ∧ ws.length ≤ i ∧ Same H0 H') ⟨[], upd_same, .nil, Nat.le_refl 0, Same.new hD⟩ (fun i H' _ ⟨_, _, _, _, s⟩ => Same.seqT s ha) (fun i x H1 hx h => ?_) (fun H1 h => ?_)
    · obtain ⟨ws, eD, pw, lw, s1⟩ := h
      obtain ⟨t, et, b, rfl, hbt⟩ := ties_get pa hx
      have hi : i < ts.length := by
        rcases Nat.lt_or_ge i ts.length with h | h
        · exact h
        · rw [List.getElem?_eq_none h] at et; cases et
      have hb1 := Same.seqA s1 hb0
      refine ⟨b, _, rfl, Same.seqT s1 hbt, rfl, _, _, rfl, _, _, rfl, rfl, rfl, ?_⟩
      have no : canR r t = false → ∃ ws, H1 D = some (.lst ws) ∧ MvsAt K H1 ws (((ts.take (i + 1)).filter (canR r)).map slideOf) ∧ ws.length ≤ i + 1 ∧ Same H0 H1 := fun c => ⟨ws, eD, by rw [take_next et, filter_snoc, c]; exact pw, by omega, s1⟩
      refine ⟨_, rfl, _, rfl, rb, _, rfl, hb1, rfl, flat_intsV r, _, rfl, ?_⟩
      rw [in_ints]
      refine ifT (fun c1 => ?_) (fun c1 => ?_)
      · refine ⟨_, rfl, _, rfl, rb, _, rfl, hb1, rfl, flat_intsV r, _, rfl, ?_⟩
        rw [in_ints]
        refine ifT (fun c2 => ?_) (fun c2 => ?_)
        · have c : canR r t = true := by
            show (decide (t.1 ∈ r) && !decide (t.2 ∈ r)) = true
            rw [show decide (t.1 ∈ r) = true from c1, show (!decide (t.2 ∈ r)) = true from c2]
            rfl
          refine ⟨_, rfl, _, rfl, (by show 3 ≤ sizeLine; decide), fun m nm => ?_⟩
          have e1 := Same.new nm (o := .tup [.str "slide", .int t.1, .int t.2]) _ _ eD
          refine ⟨ws, e1, Nat.lt_of_le_of_lt (by omega : ws.length ≤ 1001) (by decide), ws ++ [V.ref m], upd_same, ?_, by rw [List.length_append]; exact Nat.succ_le_succ lw, Same.upd_new (s1.trans (Same.new nm)) hD⟩
          rw [take_next et, filter_snoc, if_pos c, List.map_append]
          exact par_snoc (par_map (fun y m' h => (h.kp (.new nm)).off e1) pw) ⟨m, rfl, seqT_off (SqT.of upd_same) e1⟩
        · refine no ?_
          show (decide (t.1 ∈ r) && !decide (t.2 ∈ r)) = false
          rw [show (!decide (t.2 ∈ r)) = false from c2, Bool.and_false]
      · refine no ?_
        show (decide (t.1 ∈ r) && !decide (t.2 ∈ r)) = false
        rw [show decide (t.1 ∈ r) = false from c1, Bool.false_and]
    · obtain ⟨ws, eD, pw, lw, s1⟩ := h
      rw [hyl, List.take_length] at pw
      refine ⟨_, rfl, x, C, dx, fs, _, rfl, s1 _ _ hx, yc.c, yc.r, lr, e, zs, rfl, .inr (Same.seqT s1 he), (zs.length : Int), rfl, by omega, by omega, fun D2 hD2 => ?_⟩
      refine lc_turns (K := K) s1 hD2 (by omega) (fun v _ => rfl) (fun v => rfl) fun us H2 e2 p2 s2 => ?_
      have eD2 := s2 _ _ eD
      have hz : ((zs.length : Int)).toNat = rs.length := by omega
      rw [hz] at p2
      refine ⟨_, rfl, _, rfl, D, D2, ws, us, rfl, rfl, eD2, e2, Nat.le_trans (by rw [Paired.length p2, turns, List.length_map, List.length_range]; omega : ws.length + us.length ≤ 2000) (by decide), fun l nl => ?_⟩
      have s3 := Same.new nl (o := .lst (ws ++ us))
      refine ⟨l, _, rfl, .inl ⟨SqL.of upd_same, fun t H' nt => k t (ws ++ us) H' nt.sq ?_ ((((s0.trans s1).trans s2).trans s3).trans nt.same)⟩⟩
      exact par_app (par_map (fun y m h => h.kp (.of_same ((s2.trans s3).trans nt.same))) pw) (par_map (fun y m h => h.kp (.of_same (s3.trans nt.same))) p2)
end
end Y
set_option Elab.async false
set_option linter.all false
set_option maxRecDepth 100000
set_option maxHeartbeats 4000000
namespace Y
open PySem L2
/-! ### what moves do to places: one permutation for all stands -/
structure PP (n : Nat) (p q : Nat → Nat) : Prop where
  lp : ∀ i, i < n → p i < n
  lq : ∀ i, i < n → q i < n
  qp : ∀ i, i < n → q (p i) = i
  pq : ∀ i, i < n → p (q i) = i
theorem PP.id (n : Nat) : PP n (fun i => i) (fun i => i) := ⟨fun _ h => h, fun _ h => h, fun _ _ => rfl, fun _ _ => rfl⟩
theorem PP.comp {n : Nat} {p q p' q' : Nat → Nat} (a : PP n p q) (b : PP n p' q') : PP n (fun i => p (p' i)) (fun i => q' (q i)) :=
  ⟨fun i h => a.lp _ (b.lp i h), fun i h => b.lq _ (a.lq i h), fun i h => by show q' (q (p (p' i))) = i; rw [a.qp _ (b.lp i h), b.qp i h], fun i h => by show p (p' (q' (q i))) = i; rw [b.pq _ (a.lq i h), a.pq i h]⟩
/-- st' has at i what st has at p i -/
def Acts (n : Nat) (p : Nat → Nat) (st st' : List Int) : Prop := st.length = n ∧ st'.length = n ∧ ∀ i, i < n → st'.getD i 0 = st.getD (p i) 0
theorem Acts.comp {n : Nat} {p p' : Nat → Nat} {s t u : List Int} (lp : ∀ i, i < n → p' i < n) (a : Acts n p s t) (b : Acts n p' t u) : Acts n (fun i => p (p' i)) s u := ⟨a.1, b.2.1, fun i h => (b.2.2 i h).trans (a.2.2 _ (lp i h))⟩
theorem getD_range {st : List Int} : (List.range st.length).map (fun i => st.getD i 0) = st := by
  refine List.ext_getElem? fun i => ?_
  rw [List.getElem?_map]
  by_cases h : i < st.length
  · rw [List.getElem?_range h, List.getElem?_eq_getElem h]
    show some (st.getD i 0) = _
    rw [List.getD_eq_getElem?_getD, List.getElem?_eq_getElem h]
    rfl
  · rw [List.getElem?_eq_none (by rw [List.length_range]; omega), List.getElem?_eq_none (by omega)]
    rfl
theorem PP.perm {n : Nat} {p q : Nat → Nat} (h : PP n p q) : ((List.range n).map p).Perm (List.range n) := by
  refine (List.perm_ext_iff_of_nodup ?_ List.nodup_range).mpr fun i => ?_
  · refine List.pairwise_map.mpr (List.Pairwise.imp_of_mem (fun {a b} ha hb hab z => hab ?_) List.nodup_range)
    rw [← h.qp a (List.mem_range.mp ha), ← h.qp b (List.mem_range.mp hb), z]
  · rw [List.mem_map, List.mem_range]
    exact ⟨fun ⟨a, ha, e⟩ => e ▸ h.lp a (List.mem_range.mp ha), fun hi => ⟨q i, List.mem_range.mpr (h.lq i hi), h.pq i hi⟩⟩
theorem Acts.perm {n : Nat} {p q : Nat → Nat} {s t : List Int} (h : PP n p q) (a : Acts n p s t) : t.Perm s := by
  have e1 : t = ((List.range n).map p).map (fun i => s.getD i 0) := by
    rw [List.map_map]
    conv => lhs; rw [← getD_range (st := t), a.2.1]
    exact List.map_congr_left fun i hi => a.2.2 i (List.mem_range.mp hi)
  have e2 : s = (List.range n).map (fun i => s.getD i 0) := by
    conv => lhs; rw [← getD_range (st := s), a.1]
  rw [e1]
  conv => rhs; rw [e2]
  exact h.perm.map _
/-! ### one move -/
def swp (a b : Nat) (i : Nat) : Nat := if i = a then b else if i = b then a else i
theorem swp_swp {a b i : Nat} : swp a b (swp a b i) = i := by
  unfold swp
  by_cases h : i = a
  · rw [if_pos h]
    by_cases h2 : b = a
    · rw [if_pos h2]; omega
    · rw [if_neg h2, if_pos rfl, h]
  · rw [if_neg h]
    by_cases h2 : i = b
    · rw [if_pos h2, if_pos rfl, h2]
    · rw [if_neg h2, if_neg h, if_neg h2]
theorem swp_lt {n a b i : Nat} (ha : a < n) (hb : b < n) (h : i < n) : swp a b i < n := by
  unfold swp
  split
  · exact hb
  · split
    · exact ha
    · exact h
open Classical in
/-- the place of a ring j places on, where i is one of its places -/
noncomputable def rot (r : List Int) (k : Nat) (i : Nat) : Nat := if h : ∃ j, j < r.length ∧ pl r j = i then pl r ((h.choose + k) % r.length) else i
theorem rot_at {n : Nat} {r : List Int} (ok : RingOk n r) {j k : Nat} (h : j < r.length) : rot r k (pl r j) = pl r ((j + k) % r.length) := by
  have e : ∃ i, i < r.length ∧ pl r i = pl r j := ⟨j, h, rfl⟩
  unfold rot
  rw [dif_pos e, pl_inj ok e.choose_spec.1 h e.choose_spec.2]
theorem rot_off {r : List Int} {k i : Nat} (h : ∀ j, j < r.length → pl r j ≠ i) : rot r k i = i := dif_neg fun ⟨j, h1, h2⟩ => h j h1 h2
theorem rot_lt {n : Nat} {r : List Int} (ok : RingOk n r) {k i : Nat} (hi : i < n) : rot r k i < n := by
  by_cases h : ∃ j, j < r.length ∧ pl r j = i
  · obtain ⟨j, h1, rfl⟩ := h
    rw [rot_at ok h1]
    exact pl_lt ok (Nat.mod_lt _ (by omega))
  · rw [rot_off fun j h1 h2 => h ⟨j, h1, h2⟩]
    exact hi
theorem rot_rot {n : Nat} {r : List Int} (ok : RingOk n r) {k l i : Nat} (e : (k + l) % r.length = 0) : rot r k (rot r l i) = i := by
  by_cases h : ∃ j, j < r.length ∧ pl r j = i
  · obtain ⟨j, h1, rfl⟩ := h
    rw [rot_at ok h1, rot_at ok (Nat.mod_lt _ (by omega))]
    have : ((j + l) % r.length + k) % r.length = j := by
      rw [Nat.mod_add_mod, Nat.add_assoc, Nat.add_comm l k, Nat.add_mod, e, Nat.add_zero, Nat.mod_mod, Nat.mod_eq_of_lt h1]
    rw [this]
  · rw [rot_off (i := i) fun j h1 h2 => h ⟨j, h1, h2⟩, rot_off fun j h1 h2 => h ⟨j, h1, h2⟩]
noncomputable def mvP (rs : List (List Int)) : Mv → Nat → Nat
  | .slide a b => swp a.toNat b.toNat
  | .turn k => rot (rs.getD k.toNat []) ((rs.getD k.toNat []).length - 1)
noncomputable def mvQ (rs : List (List Int)) : Mv → Nat → Nat
  | .slide a b => swp a.toNat b.toNat
  | .turn k => rot (rs.getD k.toNat []) 1
theorem ring_in {rs : List (List Int)} {k : Int} (h : 0 ≤ k ∧ k < (rs.length : Int)) : rs.getD k.toNat [] ∈ rs := by
  have hk : k.toNat < rs.length := by omega
  rw [List.getD_eq_getElem?_getD, List.getElem?_eq_getElem hk]
  exact List.getElem_mem hk
theorem mv_pp {n : Nat} {ts : List (Int × Int)} {rs : List (List Int)} {m : Mv} (tok : ∀ t ∈ ts, TieOk n t) (rok : ∀ r ∈ rs, RingOk n r) (h : MvIn ts rs m) : PP n (mvP rs m) (mvQ rs m) := by
  cases m with
  | slide a b =>
    obtain ⟨a0, a1, b0, b1, _⟩ := tok _ h
    have ha : a.toNat < n := by have : a < n := a1; have : 0 ≤ a := a0; omega
    have hb : b.toNat < n := by have : b < n := b1; have : 0 ≤ b := b0; omega
    exact ⟨fun i => swp_lt ha hb, fun i => swp_lt ha hb, fun i _ => swp_swp, fun i _ => swp_swp⟩
  | turn k =>
    have ok := rok _ (ring_in h)
    have l3 := ok.2.2.1
    have e1 : (1 + ((rs.getD k.toNat []).length - 1)) % (rs.getD k.toNat []).length = 0 := by rw [show 1 + ((rs.getD k.toNat []).length - 1) = (rs.getD k.toNat []).length by omega]; exact Nat.mod_self _
    have e2 : ((rs.getD k.toNat []).length - 1 + 1) % (rs.getD k.toNat []).length = 0 := by rw [show (rs.getD k.toNat []).length - 1 + 1 = (rs.getD k.toNat []).length by omega]; exact Nat.mod_self _
    exact ⟨fun i => rot_lt ok, fun i => rot_lt ok, fun i _ => rot_rot ok e1, fun i _ => rot_rot ok e2⟩
theorem step_acts {n : Nat} {ts : List (Int × Int)} {rs : List (List Int)} {st : List Int} {m : Mv} (tok : ∀ t ∈ ts, TieOk n t) (rok : ∀ r ∈ rs, RingOk n r) (hs : st.length = n) (h : CanMv n ts rs st m) : Acts n (mvP rs m) st (stepMv rs st m) := by
  refine ⟨hs, by rw [stepMv_len, hs], fun i hi => ?_⟩
  cases m with
  | slide a b =>
    obtain ⟨_, ⟨a0, a1, b0, b1, nab⟩, _, g0⟩ := h
    have ha : a.toNat < n := by have : a < n := a1; have : 0 ≤ a := a0; omega
    have hb : b.toNat < n := by have : b < n := b1; have : 0 ≤ b := b0; omega
    have ne : a.toNat ≠ b.toNat := fun z => nab (by show a = b; have : 0 ≤ a := a0; have : 0 ≤ b := b0; omega)
    show ((st.set a.toNat 0).set b.toNat (gAt st a)).getD i 0 = st.getD (swp a.toNat b.toNat i) 0
    unfold swp
    by_cases h1 : i = b.toNat
    · subst h1
      rw [getD_set_eq (by rw [List.length_set]; omega), if_neg (Ne.symm ne), if_pos rfl]
      rfl
    · rw [getD_set_ne (Ne.symm h1)]
      by_cases h2 : i = a.toNat
      · subst h2
        rw [getD_set_eq (by omega), if_pos rfl]
        exact g0.symm
      · rw [getD_set_ne (Ne.symm h2), if_neg h2, if_neg h1]
  | turn k =>
    have ok := rok _ (ring_in h)
    show (turn1 (rs.getD k.toNat []) st).getD i 0 = st.getD (rot (rs.getD k.toNat []) ((rs.getD k.toNat []).length - 1) i) 0
    by_cases c : ∃ j, j < (rs.getD k.toNat []).length ∧ pl (rs.getD k.toNat []) j = i
    · obtain ⟨j, h1, rfl⟩ := c
      rw [turn1_ring ok hs h1, rot_at ok h1]
    · have off : ∀ j, j < (rs.getD k.toNat []).length → pl (rs.getD k.toNat []) j ≠ i := fun j h1 h2 => c ⟨j, h1, h2⟩
      rw [turn1_off ok hs off, rot_off off]
/-! ### rows of moves -/
noncomputable def msP (rs : List (List Int)) : List Mv → Nat → Nat
  | [], i => i
  | m :: l, i => mvP rs m (msP rs l i)
noncomputable def msQ (rs : List (List Int)) : List Mv → Nat → Nat
  | [], i => i
  | m :: l, i => msQ rs l (mvQ rs m i)
theorem ms_pp {n : Nat} {ts : List (Int × Int)} {rs : List (List Int)} (tok : ∀ t ∈ ts, TieOk n t) (rok : ∀ r ∈ rs, RingOk n r) : ∀ {l : List Mv}, (∀ m ∈ l, MvIn ts rs m) → PP n (msP rs l) (msQ rs l)
  | [], _ => PP.id n
  | m :: l, h => (mv_pp tok rok (h m List.mem_cons_self)).comp (ms_pp tok rok fun x hx => h x (List.mem_cons_of_mem _ hx))
theorem play_acts {n : Nat} {ts : List (Int × Int)} {rs : List (List Int)} (tok : ∀ t ∈ ts, TieOk n t) (rok : ∀ r ∈ rs, RingOk n r) : ∀ {l : List Mv} {st : List Int}, st.length = n → CanAll n ts rs st l → Acts n (msP rs l) st (playMvs rs st l)
  | [], st, hs, _ => ⟨hs, hs, fun _ _ => rfl⟩
  | m :: l, st, hs, h => by
    have a := step_acts tok rok hs h.1
    have b := play_acts tok rok (l := l) (by rw [stepMv_len, hs]) h.2
    have pp := ms_pp tok rok (l := l) (fun x hx => can_mvIn h.2 x hx)
    exact Acts.comp (p' := msP rs l) pp.lp a b
/-- two stands filled at the same places -/
def Zeq (n : Nat) (s t : List Int) : Prop := s.length = n ∧ t.length = n ∧ (∀ z ∈ s, 0 ≤ z) ∧ (∀ z ∈ t, 0 ≤ z) ∧ ∀ i, i < n → (s.getD i 0 = 0 ↔ t.getD i 0 = 0)
theorem Zeq.acts {n : Nat} {p q : Nat → Nat} {s t s' t' : List Int} (pp : PP n p q) (z : Zeq n s t) (a : Acts n p s s') (b : Acts n p t t') : Zeq n s' t' :=
  ⟨a.2.1, b.2.1, fun x hx => z.2.2.1 x ((a.perm pp).mem_iff.mp hx), fun x hx => z.2.2.2.1 x ((b.perm pp).mem_iff.mp hx), fun i hi => by rw [a.2.2 i hi, b.2.2 i hi]; exact z.2.2.2.2 _ (pp.lp i hi)⟩
theorem getD_pos {st : List Int} (h : ∀ z ∈ st, 0 ≤ z) (i : Nat) : 0 ≤ st.getD i 0 := by
  rw [List.getD_eq_getElem?_getD]
  cases e : st[i]? with
  | none => exact Int.le_refl 0
  | some z => exact h z (List.mem_of_getElem? e)
theorem Zeq.can {n : Nat} {ts : List (Int × Int)} {rs : List (List Int)} {s t : List Int} {m : Mv} (z : Zeq n s t) (h : CanMv n ts rs s m) : CanMv n ts rs t m := by
  cases m with
  | turn k => exact h
  | slide a b =>
    obtain ⟨h1, h2, h3, h4⟩ := h
    obtain ⟨a0, a1, b0, b1, nab⟩ := h2
    have ha : a.toNat < n := by have : a < n := a1; have : 0 ≤ a := a0; omega
    have hb : b.toNat < n := by have : b < n := b1; have : 0 ≤ b := b0; omega
    refine ⟨h1, ⟨a0, a1, b0, b1, nab⟩, ?_, (z.2.2.2.2 _ hb).mp h4⟩
    have p := getD_pos z.2.2.2.1 a.toNat
    have q : ¬ t.getD a.toNat 0 = 0 := fun e => by
      have := (z.2.2.2.2 _ ha).mpr e
      unfold gAt at h3
      omega
    show 0 < t.getD a.toNat 0
    omega
theorem Zeq.canAll {n : Nat} {ts : List (Int × Int)} {rs : List (List Int)} (tok : ∀ t ∈ ts, TieOk n t) (rok : ∀ r ∈ rs, RingOk n r) : ∀ {l : List Mv} {s t : List Int}, Zeq n s t → CanAll n ts rs s l → CanAll n ts rs t l
  | [], _, _, _, _ => trivial
  | m :: l, s, t, z, h => by
    have c := z.can h.1
    exact ⟨c, Zeq.canAll tok rok (z.acts (mv_pp tok rok (can_in c)) (step_acts tok rok z.1 h.1) (step_acts tok rok z.2.1 c)) h.2⟩
end Y
set_option Elab.async false
set_option linter.all false
set_option maxRecDepth 100000
set_option maxHeartbeats 2000000
namespace Y
open PySem L2
/-! ### filled rows, what moves lead them to -/
def oneAt (n : Nat) (r : List Int) : List Int := (List.range n).map fun i => if ((i : Nat) : Int) ∈ r then 1 else 0
theorem oneAt_len (n : Nat) (r : List Int) : (oneAt n r).length = n := by unfold oneAt; rw [List.length_map, List.length_range]
theorem oneAt_get {n : Nat} {r : List Int} {i : Nat} (h : i < n) : (oneAt n r).getD i 0 = if ((i : Nat) : Int) ∈ r then 1 else 0 := by
  rw [List.getD_eq_getElem?_getD]
  unfold oneAt
  rw [List.getElem?_map, List.getElem?_range h]
  rfl
theorem oneAt_pos {n : Nat} {r : List Int} : ∀ z ∈ oneAt n r, 0 ≤ z := fun z hz => by
  unfold oneAt at hz
  obtain ⟨i, _, rfl⟩ := List.mem_map.mp hz
  split <;> decide
theorem filTo_mem {st : List Int} {m : Nat} {z : Int} : z ∈ filTo st m ↔ ∃ i : Nat, z = (i : Int) ∧ i < m ∧ st.getD i 0 ≠ 0 := by
  unfold filTo
  rw [List.mem_map]
  constructor
  · rintro ⟨i, hi, rfl⟩
    obtain ⟨h1, h2⟩ := List.mem_filter.mp hi
    exact ⟨i, rfl, List.mem_range.mp h1, of_decide_eq_true h2⟩
  · rintro ⟨i, rfl, h1, h2⟩
    exact ⟨i, List.mem_filter.mpr ⟨List.mem_range.mpr h1, decide_eq_true h2⟩, rfl⟩
theorem fil_ok (st : List Int) : FilOk st.length (filL st) := by
  refine ⟨?_, fun z hz => ?_⟩
  · unfold filL filTo
    rw [List.pairwise_map]
    exact ((List.pairwise_lt_range (n := st.length)).sublist List.filter_sublist).imp fun h => by omega
  · obtain ⟨i, rfl, h1, _⟩ := filTo_mem.mp hz
    exact ⟨by omega, by omega⟩
theorem asc_ext {r s : List Int} (hr : r.Pairwise (· < ·)) (hs : s.Pairwise (· < ·)) (h : ∀ z, z ∈ r ↔ z ∈ s) : r = s := by
  have p : r.Perm s := (List.perm_ext_iff_of_nodup (hr.imp fun a => Int.ne_of_lt a) (hs.imp fun a => Int.ne_of_lt a)).mpr h
  exact p.eq_of_pairwise (fun a b _ _ h1 h2 => absurd (Int.lt_trans h1 h2) (Int.lt_irrefl a)) hr hs
theorem fil_one {n : Nat} {r : List Int} (ok : FilOk n r) : filL (oneAt n r) = r := by
  refine asc_ext (fil_ok _).asc ok.asc fun z => ?_
  unfold filL
  rw [filTo_mem, oneAt_len]
  constructor
  · rintro ⟨i, rfl, h1, h2⟩
    rw [oneAt_get h1] at h2
    split at h2
    · assumption
    · exact absurd rfl h2
  · intro hz
    obtain ⟨z0, z1⟩ := ok.inn z hz
    refine ⟨z.toNat, by omega, by omega, ?_⟩
    rw [oneAt_get (by omega), show ((z.toNat : Nat) : Int) = z by omega, if_pos hz]
    decide
theorem filTo_count {st : List Int} : ∀ {m : Nat}, m ≤ st.length → (filTo st m).length = (nz (st.take m)).length
  | 0, _ => rfl
  | m + 1, h => by
    have hm : m < st.length := h
    have e : st.take (m + 1) = st.take m ++ [st.getD m 0] := by
      rw [List.take_add_one, List.getD_eq_getElem?_getD, List.getElem?_eq_getElem hm]
      rfl
    rw [filTo_succ, e, nz_snoc]
    split
    · rw [List.length_append, List.length_append, filTo_count (Nat.le_of_lt hm)]
      rfl
    · exact filTo_count (Nat.le_of_lt hm)
theorem fil_count (st : List Int) : (filL st).length = (nz st).length := by
  unfold filL
  rw [filTo_count (Nat.le_refl _), List.take_length]
def stepR (n : Nat) (rs : List (List Int)) (r : List Int) (m : Mv) : List Int := filL (stepMv rs (oneAt n r) m)
def stepsR (n : Nat) (ts : List (Int × Int)) (rs : List (List Int)) (r : List Int) : List (Mv × List Int) := (movesR ts rs r).map fun m => (m, stepR n rs r m)
section
variable {n : Nat} {ts : List (Int × Int)} {rs : List (List Int)} {r : List Int} {m : Mv}
theorem one_can (tok : ∀ t ∈ ts, TieOk n t) (h : m ∈ movesR ts rs r) : CanMv n ts rs (oneAt n r) m := by
  unfold movesR at h
  rcases List.mem_append.mp h with h | h
  · obtain ⟨t, ht, rfl⟩ := List.mem_map.mp h
    obtain ⟨h1, h2⟩ := List.mem_filter.mp ht
    unfold canR at h2
    rw [Bool.and_eq_true, decide_eq_true_iff, Bool.not_eq_true', decide_eq_false_iff_not] at h2
    obtain ⟨a0, a1, b0, b1, _⟩ := tok t h1
    refine ⟨h1, tok t h1, ?_, ?_⟩
    · show 0 < (oneAt n r).getD t.1.toNat 0
      rw [oneAt_get (by omega), show ((t.1.toNat : Nat) : Int) = t.1 by omega, if_pos h2.1]
      decide
    · show (oneAt n r).getD t.2.toNat 0 = 0
      rw [oneAt_get (by omega), show ((t.2.toNat : Nat) : Int) = t.2 by omega, if_neg h2.2]
  · unfold turns at h
    obtain ⟨k, hk, rfl⟩ := List.mem_map.mp h
    rw [List.mem_range] at hk
    exact ⟨by omega, by omega⟩
theorem stepR_ok (r : List Int) (m : Mv) : FilOk n (stepR n rs r m) := by
  have h := fil_ok (stepMv rs (oneAt n r) m)
  rw [stepMv_len, oneAt_len] at h
  exact h
theorem stepR_len (tok : ∀ t ∈ ts, TieOk n t) (rok : ∀ r ∈ rs, RingOk n r) (ok : FilOk n r) (h : m ∈ movesR ts rs r) : (stepR n rs r m).length = r.length := by
  have c := one_can (n := n) tok h
  have p := (step_acts tok rok (oneAt_len n r) c).perm (mv_pp tok rok (can_in c))
  unfold stepR
  rw [fil_count]
  conv => rhs; rw [← fil_one ok, fil_count]
  unfold nz
  exact (p.filter _).length_eq
end
/-! ### rows of unlike places below n: at most 2 ^ n -/
def pow : List Int → List (List Int)
  | [] => [[]]
  | a :: l => (pow l).map (a :: ·) ++ pow l
theorem pow_len : ∀ l, (pow l).length = 2 ^ l.length
  | [] => rfl
  | a :: l => by
    show ((pow l).map (a :: ·) ++ pow l).length = _
    rw [List.length_append, List.length_map, pow_len l, List.length_cons, Nat.pow_succ]
    omega
theorem sub_pow : ∀ {r l : List Int}, r.Sublist l → r ∈ pow l
  | _, _, .slnil => List.mem_singleton.mpr rfl
  | _, _, .cons _ h => List.mem_append_right _ (sub_pow h)
  | _, _, .cons₂ a h => List.mem_append_left _ (List.mem_map.mpr ⟨_, sub_pow h, rfl⟩)
theorem fil_pow {n : Nat} {r : List Int} (ok : FilOk n r) : r ∈ pow ((List.range n).map fun i => ((i : Nat) : Int)) := by
  refine sub_pow ?_
  have e : r = ((List.range n).filter fun i : Nat => decide ((oneAt n r).getD i 0 ≠ 0)).map fun i : Nat => ((i : Nat) : Int) := by
    have h := fil_one ok
    unfold filL filTo at h
    rw [oneAt_len] at h
    exact h.symm
  rw [e]
  exact List.filter_sublist.map _
theorem sub_len {α : Type} [DecidableEq α] : ∀ {l D : List α}, l.Nodup → (∀ x ∈ l, x ∈ D) → l.length ≤ D.length
  | [], _, _, _ => Nat.zero_le _
  | a :: l, D, nd, h => by
    have n1 := List.nodup_cons.mp nd
    have ha := h a List.mem_cons_self
    have ih := sub_len (D := D.erase a) n1.2 fun x hx => (List.mem_erase_of_ne (fun z => n1.1 (by rw [← z]; exact hx))).mpr (h x (List.mem_cons_of_mem _ hx))
    rw [List.length_erase_of_mem ha] at ih
    have := List.length_pos_of_mem ha
    rw [List.length_cons]
    omega
theorem fils_len {n : Nat} {l : List (List Int)} (nd : l.Nodup) (h : ∀ r ∈ l, FilOk n r) : l.length ≤ 2 ^ n := by
  have := sub_len nd fun r hr => fil_pow (h r hr)
  rwa [pow_len, List.length_map, List.length_range] at this
/-! ### rows found one behind the other, each with its way -/
abbrev Way := List Int × List Mv
def addW (p : List Mv) (W : List Way) (s : Mv × List Int) : List Way := if s.2 ∈ W.map (·.1) then W else W ++ [(s.2, p ++ [s.1])]
def expandW (S : List Int → List (Mv × List Int)) (W : List Way) (i : Nat) : List Way := match W[i]? with
  | none => W
  | some w => (S w.1).foldl (addW w.2) W
def reachW (S : List Int → List (Mv × List Int)) (r : List Int) : Nat → List Way
  | 0 => [(r, [])]
  | i + 1 => expandW S (reachW S r i) i
theorem addW_pre (p : List Mv) (W : List Way) (s : Mv × List Int) : ∃ M, addW p W s = W ++ M := by
  unfold addW
  split
  · exact ⟨[], by simp⟩
  · exact ⟨_, rfl⟩
theorem foldW_pre (p : List Mv) : ∀ (l : List (Mv × List Int)) (W : List Way), ∃ M, l.foldl (addW p) W = W ++ M
  | [], W => ⟨[], by simp⟩
  | s :: l, W => by
    obtain ⟨M, e⟩ := addW_pre p W s
    obtain ⟨M2, e2⟩ := foldW_pre p l (addW p W s)
    exact ⟨M ++ M2, by rw [List.foldl_cons, e2, e, List.append_assoc]⟩
theorem addW_nodup {p : List Mv} {W : List Way} {s : Mv × List Int} (h : (W.map (·.1)).Nodup) : ((addW p W s).map (·.1)).Nodup := by
  unfold addW
  split
  · exact h
  · rename_i hn
    rw [List.map_append]
    refine List.nodup_append.mpr ⟨h, by simp, fun a ha b hb => ?_⟩
    rw [List.mem_singleton.mp hb]
    exact fun z => hn (by have z : a = s.2 := z; rw [← z]; exact ha)
theorem foldW_nodup {p : List Mv} : ∀ {l : List (Mv × List Int)} {W : List Way}, (W.map (·.1)).Nodup → ((l.foldl (addW p) W).map (·.1)).Nodup
  | [], _, h => h
  | s :: l, W, h => foldW_nodup (l := l) (W := addW p W s) (addW_nodup h)
theorem reach_nodup (S : List Int → List (Mv × List Int)) (r : List Int) : ∀ i, ((reachW S r i).map (·.1)).Nodup
  | 0 => by simp [reachW]
  | i + 1 => by
    show ((expandW S (reachW S r i) i).map (·.1)).Nodup
    unfold expandW
    split
    · exact reach_nodup S r i
    · exact foldW_nodup (reach_nodup S r i)
theorem reach_pre (S : List Int → List (Mv × List Int)) (r : List Int) (i : Nat) : ∃ M, reachW S r (i + 1) = reachW S r i ++ M := by
  show ∃ M, expandW S (reachW S r i) i = _
  unfold expandW
  split
  · exact ⟨[], by simp⟩
  · exact foldW_pre _ _ _
theorem reach_pre' (S : List Int → List (Mv × List Int)) (r : List Int) (i : Nat) : ∀ k, ∃ M, reachW S r (i + k) = reachW S r i ++ M
  | 0 => ⟨[], by simp⟩
  | k + 1 => by
    obtain ⟨M, e⟩ := reach_pre' S r i k
    obtain ⟨M2, e2⟩ := reach_pre S r (i + k)
    exact ⟨M ++ M2, by rw [← Nat.add_assoc, e2, e, List.append_assoc]⟩
theorem addW_has (p : List Mv) (W : List Way) (s : Mv × List Int) : s.2 ∈ (addW p W s).map (·.1) := by
  unfold addW
  split
  · assumption
  · rw [List.map_append]
    exact List.mem_append_right _ (List.mem_singleton.mpr rfl)
theorem foldW_has {p : List Mv} : ∀ {l : List (Mv × List Int)} {W : List Way} {s : Mv × List Int}, s ∈ l → s.2 ∈ (l.foldl (addW p) W).map (·.1)
  | t :: l, W, s, h => by
    rcases List.mem_cons.mp h with rfl | h
    · obtain ⟨M, e⟩ := foldW_pre p l (addW p W s)
      rw [List.foldl_cons, e, List.map_append]
      exact List.mem_append_left _ (addW_has p W s)
    · exact foldW_has (l := l) (W := addW p W t) h
/-- where all rows are expanded, each step leads to one of them -/
theorem reach_closed {S : List Int → List (Mv × List Int)} {r : List Int} {k : Nat} (h : (reachW S r k).length ≤ k) : ∀ w ∈ reachW S r k, ∀ s ∈ S w.1, s.2 ∈ (reachW S r k).map (·.1) := fun w hw s hs => by
  obtain ⟨j, hj⟩ := List.mem_iff_getElem?.mp hw
  have jk : j < k := Nat.lt_of_lt_of_le (List.getElem?_eq_some_iff.mp hj).1 h
  -- it stands at j when it is expanded
  obtain ⟨M, e⟩ := reach_pre' S r j (k - j)
  rw [show j + (k - j) = k by omega] at e
  obtain ⟨M1, e1⟩ := reach_pre' S r (j + 1) (k - (j + 1))
  rw [show j + 1 + (k - (j + 1)) = k by omega] at e1
  rw [e1, List.map_append]
  refine List.mem_append_left _ ?_
  show s.2 ∈ (expandW S (reachW S r j) j).map (·.1)
  unfold expandW
  split
  · rename_i hn
    -- the list does not grow any more: all of it stands at j already
    exfalso
    have : ∀ i, j ≤ i → reachW S r i = reachW S r j := by
      intro i hi
      induction i with
      | zero => rw [show j = 0 by omega]
      | succ i ih =>
        rcases Nat.lt_or_ge i j with h1 | h1
        · rw [show j = i + 1 by omega]
        · have ih := ih h1
          show expandW S (reachW S r i) i = _
          unfold expandW
          rw [ih]
          have hl := List.getElem?_eq_none_iff.mp hn
          rw [List.getElem?_eq_none (by omega)]
    rw [this k (by omega)] at hj
    rw [hn] at hj
    cases hj
  · rename_i w' hw'
    have : w' = w := by
      rw [e, List.getElem?_append_left (List.getElem?_eq_some_iff.mp hw').1] at hj
      exact Option.some.inj (hw'.symm.trans hj)
    subst this
    exact foldW_has hs
/-- what holds of the first row and stays along steps holds of all rows found -/
theorem foldW_all {P : List Int → Prop} {p : List Mv} : ∀ {l : List (Mv × List Int)} {W : List Way}, (∀ s ∈ l, P s.2) → (∀ w ∈ W, P w.1) → ∀ w ∈ l.foldl (addW p) W, P w.1
  | [], _, _, hW => hW
  | s :: l, W, hl, hW => foldW_all (l := l) (W := addW p W s) (fun x hx => hl x (List.mem_cons_of_mem _ hx)) fun w hw => by
    unfold addW at hw
    split at hw
    · exact hW w hw
    · rcases List.mem_append.mp hw with h | h
      · exact hW w h
      · rw [List.mem_singleton.mp h]
        exact hl s List.mem_cons_self
theorem reach_all {S : List Int → List (Mv × List Int)} {r : List Int} {P : List Int → Prop} (h0 : P r) (hS : ∀ x, P x → ∀ s ∈ S x, P s.2) : ∀ i, ∀ w ∈ reachW S r i, P w.1
  | 0, w, hw => by rw [List.mem_singleton.mp hw]; exact h0
  | i + 1, w, hw => by
    have ih := reach_all h0 hS i
    have hw : w ∈ expandW S (reachW S r i) i := hw
    unfold expandW at hw
    split at hw
    · exact ih w hw
    · rename_i w' hw'
      exact foldW_all (hS _ (ih w' (List.mem_of_getElem? hw'))) ih w hw
end Y
set_option Elab.async false
set_option linter.all false
set_option maxRecDepth 100000
set_option maxHeartbeats 4000000
namespace Y
open PySem L2 LamX
abbrev sWhy : Stmt := top 51
abbrev NWhy : List Str := ["_law_call", "_law_found", "e"]
/-! ### the law's own try: what a kept lambda raises, told as a tuple -/
structure TWy (K : PySem.W.Frag) (mg : Str → Option Value) (CR CT CG CM CN : Addr) : Prop where
  gR : mg "BadRow" = some (.ref CR)
  gT : mg "BadTie" = some (.ref CT)
  gG : mg "BadRing" = some (.ref CG)
  gM : mg "BadMove" = some (.ref CM)
  gN : mg "BadNumber" = some (.ref CN)
  xR : XfC K CR
  xT : XfC K CT
  xG : XfC K CG
  xM : XfC K CM
  xN : XfC K CN
  nR : PySem.W.findIn K (.ref CR) "row" = some none
  nT : PySem.W.findIn K (.ref CT) "tie" = some none
  nG : PySem.W.findIn K (.ref CG) "index" = some none
  nM : PySem.W.findIn K (.ref CM) "index" = some none
  nN1 : PySem.W.findIn K (.ref CN) "what" = some none
  nN2 : PySem.W.findIn K (.ref CN) "number" = some none
  rr : PySem.W.exmOne K (.ref CR) (.ref CR) = some true
  tr : PySem.W.exmOne K (.ref CT) (.ref CR) = some false
  tt : PySem.W.exmOne K (.ref CT) (.ref CT) = some true
  gr : PySem.W.exmOne K (.ref CG) (.ref CR) = some false
  gt : PySem.W.exmOne K (.ref CG) (.ref CT) = some false
  gg : PySem.W.exmOne K (.ref CG) (.ref CG) = some true
  mr : PySem.W.exmOne K (.ref CM) (.ref CR) = some false
  mt : PySem.W.exmOne K (.ref CM) (.ref CT) = some false
  mg_ : PySem.W.exmOne K (.ref CM) (.ref CG) = some false
  mm : PySem.W.exmOne K (.ref CM) (.ref CM) = some true
  nr : PySem.W.exmOne K (.ref CN) (.ref CR) = some false
  nt : PySem.W.exmOne K (.ref CN) (.ref CT) = some false
  ng : PySem.W.exmOne K (.ref CN) (.ref CG) = some false
  nm : PySem.W.exmOne K (.ref CN) (.ref CM) = some false
  nn : PySem.W.exmOne K (.ref CN) (.ref CN) = some true
/-- what the caught error is told as -/
inductive Told (CR CT CG CM CN : Addr) (fs : List (Str × V)) : Value → List V → Prop
  | row (v : V) : fs.lookup ("row" : Str) = some v → Told CR CT CG CM CN fs (.ref CR) [.str "row", v]
  | tie (v : V) : fs.lookup ("tie" : Str) = some v → Told CR CT CG CM CN fs (.ref CT) [.str "tie", v]
  | ring (v : V) : fs.lookup ("index" : Str) = some v → Told CR CT CG CM CN fs (.ref CG) [.str "ring", v]
  | move (v : V) : fs.lookup ("index" : Str) = some v → Told CR CT CG CM CN fs (.ref CM) [.str "move", v]
  | number (v u : V) : fs.lookup ("what" : Str) = some v → fs.lookup ("number" : Str) = some u → Told CR CT CG CM CN fs (.ref CN) [.str "number", v, u]
def TTy (CR CT CG CM CN : Addr) : (XK → Hp → VK → Prop) → Hp → VK → Prop := fun tl H Q => ∀ (q0 : Addr) (R : VK), H q0 = none →
  tl (fun cls d H' => ∃ (dd : Addr) (fs : List (Str × V)) (ys : List V), d = some dd ∧ H' dd = some (.xd fs) ∧ Told CR CT CG CM CN fs cls ys ∧ ∀ t, H' t = none → Q (.ref t) (upd H' t (.tup ys))) (upd H q0 (.tup [.str "none"])) R
def tSu (C : Addr) (tag f : Str) : Addr → Value → Option Addr → TS := fun a cls d => tAsg (tTup (tCons (tC (.str tag)) (tCons (tXf a cls d C f (tVar 2)) tNil))) (gName 1)
def tSuN (C : Addr) : Addr → Value → Option Addr → TS := fun a cls d => tAsg (tTup (tCons (tC (.str "number")) (tCons (tXf a cls d C "what" (tVar 2)) (tCons (tXf a cls d C "number" (tVar 2)) tNil)))) (gName 1)
theorem takes_len {X : Cx} {W : WX} (tk : Takes X W) : Takes X (fun cls d σ H => σ.length = X.N.length → W cls d σ H) := fun u s' x => by
  obtain ⟨a, B, sI, pins', σ', H', cls, d, e, J, r1, r2, r3, r4, r5, r6, w⟩ := x
  exact tk u s' ⟨a, B, sI, pins', σ', H', cls, d, e, J, r1, r2, r3, r4, r5, r6, w J.len⟩
section
variable {K : PySem.W.Frag} {CR CT CG CM CN : Addr}
theorem scWhy : FnScope NWhy ["_law_call"] (defScope sWhy) := ⟨rfl, rfl, rfl, by decide +kernel, rfl, by decide +kernel, by decide +kernel⟩
theorem why_givesP {X : Cx} {k : Nat} {g : Addr} {cdg : Value} (T : TWy X.K X.mg CR CT CG CM CN) : GivesP X k NWhy "_law_why" (defScope sWhy) g cdg (defBody sWhy) "_law_call" (TTy CR CT CG CM CN) := by
  intro f pre s H Q tl act hst hc h
  refine ⟨_, pss_cons (ps_set (X := (cxOf C8.CX0 X.prog X.w X.K X.mg X.base NWhy "_law_why" (defScope sWhy) g cdg X.A X.stack s H C8.E0).nox) (i := 1) scWhy.nd rfl (Or.inl rfl) (pe_tup (pa_cons pe_str pa_nil)))
    (pss_cons (ps_try_each (X := (cxOf C8.CX0 X.prog X.w X.K X.mg X.base NWhy "_law_why" (defScope sWhy) g cdg X.A X.stack s H C8.E0).nox) (i := 2) (n := "e") (Wout := fun _ _ _ _ => False)
      (l := [(.ref CR, tSu CR "row" "row"), (.ref CT, tSu CT "tie" "tie"), (.ref CG, tSu CG "ring" "index"), (.ref CM, tSu CM "move" "index"), (.ref CN, tSuN CN)])
      (tb := fun W D σ H => ∃ Ech : XK, (∀ cls d σ' H', σ'.length = 3 → Ech cls d H' → W cls d σ' H') ∧ σ[0]? = some (some (.ref f)) ∧ pre H ∧ tl Ech H (fun _ H' => D.nx σ H'))
      rfl rfl scWhy.nd rfl rfl L2.takes0 (fun W pn xe tk _ => ?body)
      (.cons ⟨rfl, by decide, Or.inl T.gR⟩ (fun a oe cls d pn hz hf => pss_one (ps_set (i := 1) scWhy.nd rfl (Or.inl rfl) (pe_tup (pa_cons pe_str (pa_cons (by exact pe_xf T.xR T.nR hz hf (pv 2)) pa_nil)))))
      (.cons ⟨rfl, by decide, Or.inl T.gT⟩ (fun a oe cls d pn hz hf => pss_one (ps_set (i := 1) scWhy.nd rfl (Or.inl rfl) (pe_tup (pa_cons pe_str (pa_cons (by exact pe_xf T.xT T.nT hz hf (pv 2)) pa_nil)))))
      (.cons ⟨rfl, by decide, Or.inl T.gG⟩ (fun a oe cls d pn hz hf => pss_one (ps_set (i := 1) scWhy.nd rfl (Or.inl rfl) (pe_tup (pa_cons pe_str (pa_cons (by exact pe_xf T.xG T.nG hz hf (pv 2)) pa_nil)))))
      (.cons ⟨rfl, by decide, Or.inl T.gM⟩ (fun a oe cls d pn hz hf => pss_one (ps_set (i := 1) scWhy.nd rfl (Or.inl rfl) (pe_tup (pa_cons pe_str (pa_cons (by exact pe_xf T.xM T.nM hz hf (pv 2)) pa_nil)))))
      (.cons ⟨rfl, by decide, Or.inl T.gN⟩ (fun a oe cls d pn hz hf => pss_one (ps_set (i := 1) scWhy.nd rfl (Or.inl rfl) (pe_tup (pa_cons pe_str (pa_cons (by exact pe_xf T.xN T.nN1 hz hf (pv 2)) (pa_cons (by exact pe_xf T.xN T.nN2 hz hf (pv 2)) pa_nil)))))) .nil))))))
    (pss_one (ps_ret (pv 1)))), ?_⟩
  case body =>
    refine ⟨fun pins s' σ H' D I h' => ?_⟩
    obtain ⟨Ech, hW, h1, h2, h3⟩ := h'
    exact (pss_one (ps_expr (act _ pn xe Ech _ _ (takes_len tk) (fun cls d σ' H' e l => hW cls d σ' H' l e)))).run pins s' σ H' D I ⟨h1, h2, h3⟩
  · refine ⟨(by show 1 ≤ sizeLine; decide), fun q0 nq0 => ?_⟩
    have hc0 := hst _ _ (Same.new (o := .tup [.str "none"]) nq0) hc
    refine ⟨_, ?_, rfl, hc0, h q0 _ nq0⟩
    rintro cls d σ' H' lσ ⟨dd, fs, ys, rfl, e, told, k⟩
    match σ', lσ with
    | [v0, v1, v2], _ =>
      cases told with
      | row v hv =>
        refine ⟨true, T.rr, fun _ a ha => ?_, fun z => Bool.noConfusion z⟩
        refine ⟨_, rfl, rfl, rfl, dd, _, v, rfl, e, hv, (by show 2 ≤ sizeLine; decide), fun t nt => ?_⟩
        exact ⟨_, rfl, k t nt⟩
      | tie v hv =>
        refine ⟨false, T.tr, fun z => Bool.noConfusion z, fun _ => ⟨true, T.tt, fun _ a ha => ?_, fun z => Bool.noConfusion z⟩⟩
        refine ⟨_, rfl, rfl, rfl, dd, _, v, rfl, e, hv, (by show 2 ≤ sizeLine; decide), fun t nt => ?_⟩
        exact ⟨_, rfl, k t nt⟩
      | ring v hv =>
        refine ⟨false, T.gr, fun z => Bool.noConfusion z, fun _ => ⟨false, T.gt, fun z => Bool.noConfusion z, fun _ => ⟨true, T.gg, fun _ a ha => ?_, fun z => Bool.noConfusion z⟩⟩⟩
        refine ⟨_, rfl, rfl, rfl, dd, _, v, rfl, e, hv, (by show 2 ≤ sizeLine; decide), fun t nt => ?_⟩
        exact ⟨_, rfl, k t nt⟩
      | move v hv =>
        refine ⟨false, T.mr, fun z => Bool.noConfusion z, fun _ => ⟨false, T.mt, fun z => Bool.noConfusion z, fun _ => ⟨false, T.mg_, fun z => Bool.noConfusion z, fun _ => ⟨true, T.mm, fun _ a ha => ?_, fun z => Bool.noConfusion z⟩⟩⟩⟩
        refine ⟨_, rfl, rfl, rfl, dd, _, v, rfl, e, hv, (by show 2 ≤ sizeLine; decide), fun t nt => ?_⟩
        exact ⟨_, rfl, k t nt⟩
      | number v u hv hu =>
        refine ⟨false, T.nr, fun z => Bool.noConfusion z, fun _ => ⟨false, T.nt, fun z => Bool.noConfusion z, fun _ => ⟨false, T.ng, fun z => Bool.noConfusion z, fun _ => ⟨false, T.nm, fun z => Bool.noConfusion z, fun _ => ⟨true, T.nn, fun _ a ha => ?_, fun z => Bool.noConfusion z⟩⟩⟩⟩⟩
        refine ⟨_, rfl, rfl, rfl, dd, _, v, rfl, e, hv, _, rfl, rfl, rfl, dd, _, u, rfl, e, hu, (by show 3 ≤ sizeLine; decide), fun t nt => ?_⟩
        exact ⟨_, rfl, k t nt⟩
end
end Y
set_option Elab.async false
set_option linter.all false
set_option maxRecDepth 100000
set_option maxHeartbeats 4000000
namespace Y
open PySem L2
/-! ### the errors' first methods -/
abbrev sNumI : Stmt := inClass (top 8) 0
abbrev sRowI : Stmt := inClass (top 9) 0
abbrev sTieI : Stmt := inClass (top 10) 0
abbrev sRingI : Stmt := inClass (top 11) 0
section
variable {P : Program} {w : World} {K : PySem.W.Frag} {mg : Str → Option Value} {base : Heap} {C f : Addr}
theorem scNumI : FnScope ["self", "what", "number"] ["self", "what", "number"] (defScope sNumI) := ⟨rfl, rfl, rfl, by decide +kernel, rfl, by decide +kernel, by decide +kernel⟩
theorem scRowI : FnScope ["self", "row"] ["self", "row"] (defScope sRowI) := ⟨rfl, rfl, rfl, by decide +kernel, rfl, by decide +kernel, by decide +kernel⟩
theorem scTieI : FnScope ["self", "tie"] ["self", "tie"] (defScope sTieI) := ⟨rfl, rfl, rfl, by decide +kernel, rfl, by decide +kernel, by decide +kernel⟩
theorem scRingI : FnScope ["self", "index"] ["self", "index"] (defScope sRingI) := ⟨rfl, rfl, rfl, by decide +kernel, rfl, by decide +kernel, by decide +kernel⟩
theorem ok_numI {fd : FuncData} (F : Fun K "__init__" "BadNumber.__init__" sNumI f fd) (T : XE2 K mg "BadNumber" "what" "number" C f) : FnOk P w K mg base CX0 1 f fd ["self", "what", "number"] (spX2 C "what" "number") := by
  refine F.ok scNumI (fun vs H Q E h => ?_) (fun cdv A outer s H vs Q E hr h => ?_)
  · obtain ⟨a, v, v2, rfl, _⟩ := h
    rfl
  · obtain ⟨a, v, v2, rfl, ha, k⟩ := h
    refine ⟨_, pss_cons (ps_ost (pv 0) (pv 1)) (pss_one (ps_ost (pv 0) (pv 2))), ?_⟩
    refine ⟨_, rfl, _, rfl, a, C, rfl, T.xc.o, T.n, .inl ⟨ha, fun dx nn ne => ?_⟩⟩
    refine ⟨_, rfl, _, rfl, a, C, rfl, T.xc.o, T.n2, .inr ⟨dx, _, upd_same, by rw [upd_ne ne]; exact upd_same, by show 1 ≤ 900; decide, ?_⟩⟩
    exact k dx _ nn ne (fun b u hb e => by rw [upd_ne (ne_of_none e nn), upd_ne hb, upd_ne (ne_of_none e nn)]; exact e) (by rw [upd_ne (Ne.symm ne)]; exact upd_same) upd_same
theorem ok_rowI {fd : FuncData} (F : Fun K "__init__" "BadRow.__init__" sRowI f fd) (T : XE1 K mg "BadRow" "row" C f) : FnOk P w K mg base CX0 1 f fd ["self", "row"] (spX1 C "row") := by
  refine F.ok scRowI (fun vs H Q E h => ?_) (fun cdv A outer s H vs Q E hr h => ?_)
  · obtain ⟨a, v, rfl, _⟩ := h
    rfl
  · obtain ⟨a, v, rfl, ha, k⟩ := h
    exact ⟨_, pss_one (ps_ost (pv 0) (pv 1)), _, rfl, _, rfl, a, C, rfl, T.xc.o, T.n, .inl ⟨ha, fun dx n ne => k dx n ne⟩⟩
theorem ok_tieI {fd : FuncData} (F : Fun K "__init__" "BadTie.__init__" sTieI f fd) (T : XE1 K mg "BadTie" "tie" C f) : FnOk P w K mg base CX0 1 f fd ["self", "tie"] (spX1 C "tie") := by
  refine F.ok scTieI (fun vs H Q E h => ?_) (fun cdv A outer s H vs Q E hr h => ?_)
  · obtain ⟨a, v, rfl, _⟩ := h
    rfl
  · obtain ⟨a, v, rfl, ha, k⟩ := h
    exact ⟨_, pss_one (ps_ost (pv 0) (pv 1)), _, rfl, _, rfl, a, C, rfl, T.xc.o, T.n, .inl ⟨ha, fun dx n ne => k dx n ne⟩⟩
theorem ok_ringI {fd : FuncData} (F : Fun K "__init__" "BadRing.__init__" sRingI f fd) (T : XE1 K mg "BadRing" "index" C f) : FnOk P w K mg base CX0 1 f fd ["self", "index"] (spX1 C "index") := by
  refine F.ok scRingI (fun vs H Q E h => ?_) (fun cdv A outer s H vs Q E hr h => ?_)
  · obtain ⟨a, v, rfl, _⟩ := h
    rfl
  · obtain ⟨a, v, rfl, ha, k⟩ := h
    exact ⟨_, pss_one (ps_ost (pv 0) (pv 1)), _, rfl, _, rfl, a, C, rfl, T.xc.o, T.n, .inl ⟨ha, fun dx n ne => k dx n ne⟩⟩
end
/-! ### wrong ties -/
/-- d is no tie of n places, or one of ps -/
def BadT (n : Nat) (ps : List (Int × Int)) (d : PyData) : Prop := ∀ t : Int × Int, rowOf d = some [.int t.1, .int t.2] → unB n d = true → t ∈ ps
/-- right ties, then a wrong one -/
structure TiesBad (n : Nat) (ps : List (Int × Int)) (d : PyData) : Prop where
  ok : ∀ t ∈ ps, TieOk n t
  nd : ps.Nodup
  l60 : ps.length ≤ 60
  sh : short63 d
  bad : BadT n ps d
def spCTX (K : PySem.W.Frag) (CR CT : Addr) : Sp := fun vs H Q E => ∃ (n : Nat) (y : V) (d : PyData), vs = [.int (n : Int), y] ∧ Dq K H d y ∧ n ≤ 60 ∧
  ((rowOf d = none ∧ RaisedF CR [("row", y)] H E) ∨ ∃ (ps : List (Int × Int)) (d0 : PyData) (rest : List PyData), rowOf d = some (ps.map tieD ++ d0 :: rest) ∧ TiesBad n ps d0 ∧ ∀ v H1, Same H H1 → Dq K H1 d0 v → RaisedF CT [("tie", v)] H1 E)
theorem unB_tie {n : Nat} {t : Int × Int} (h : TieOk n t) : unB n (tieD t) = true := by
  obtain ⟨a0, a1, b0, b1, ne⟩ := h
  show (([PyData.int t.1, PyData.int t.2].all (belowB n)) && decide (numsOf [PyData.int t.1, PyData.int t.2]).Nodup) = true
  have e : numsOf [PyData.int t.1, PyData.int t.2] = [t.1, t.2] := rfl
  rw [e]
  simp [belowB, a0, a1, b0, b1, ne]
theorem dq_tie {K : PySem.W.Frag} {H : Hp} {t : Int × Int} {v : V} (h : Dq K H (tieD t) v) : ∃ b, v = .ref b ∧ SqT K H b ((row2 t).map V.int) := by
  cases h with
  | tup hs hd => cases hd with
    | cons a hd => cases a; cases hd with
      | cons a hd => cases a; cases hd; exact ⟨_, rfl, hs⟩
theorem get_mid {α : Type} {l r : List α} {x : α} : (l ++ x :: r)[l.length]? = some x := by
  rw [List.getElem?_append_right (Nat.le_refl _), Nat.sub_self]
  rfl
section
variable {P : Program} {w : World} {K : PySem.W.Frag} {mg : Str → Option Value} {base : Heap} {fInt fRow fUn fCnt fFil CR CT CG CN CM fIR fIT fIG fIN : Addr}
theorem ok_ctX {f : Addr} {fd fdR fdU fdIR fdIT : FuncData} (F : Fun K "checked_ties" "checked_ties" sCTies f fd) (T : TUn K mg fInt fRow fUn fCnt) (FR : Fun K "is_row" "is_row" sIsRow fRow fdR) (bR : Binds K fdR ["value"] [])
    (GU : FnOk P w K mg base CX0 3 fUn fdU ["many", "value"] (spUnlikeD K)) (FU : Fun K "are_unlike_numbers" "are_unlike_numbers" sUnlike fUn fdU) (bU : Binds K fdU ["many", "value"] [])
    (XR : XE1 K mg "BadRow" "row" CR fIR) (GIR : FnOk P w K mg base CX0 1 fIR fdIR ["self", "row"] (spX1 CR "row")) (bIR : Binds K fdIR ["self", "row"] [])
    (XT : XE1 K mg "BadTie" "tie" CT fIT) (GIT : FnOk P w K mg base CX0 1 fIT fdIT ["self", "tie"] (spX1 CT "tie")) (bIT : Binds K fdIT ["self", "tie"] []) :
    FnOk P w K mg base (L2.CX P w) 4 f fd ["places", "ties"] (spCTX K CR CT) := by
  have GR : FnOk P w K mg base CX0 1 fRow fdR ["value"] (spIsRowD K) := ok_isRowD FR T.i
  refine F.okX scCTies (fun vs H Q E h => ?_) (fun cdv A outer s H vs Q E hr h => ?_)
  · obtain ⟨n, y, d, rfl, _⟩ := h
    rfl
  · obtain ⟨n, y, d, rfl, hd, n60, k⟩ := h
    have hu := hr.units
    have hr1 : Room 1 _ := hr.mono (by decide)
    have hr2 : Room 2 _ := hr.mono (by decide)
    refine ⟨_, pss_cons (ps_if (pt_not (pt_val (pe_call GR hr1 (by rfl) T.gRow FR.kp bR .nil pass0 (pa_cons (pv 1) pa_nil)))) (pss_one (ps_raise rfl (takes_of rfl rfl rfl rfl) (pmk_oex XR.xc.o XR.i XR.t GIR hr2 bIR .nil pass0 (by rfl) XR.g (pa_cons (pv 1) pa_nil)))) pss_nil)
      (pss_cons (ps_set (i := 2) scCTies.nd rfl (Or.inl rfl) (pe_callTy0 cr_set0T (by rfl) T.set (by decide +kernel)))
      (pss_cons (ps_for (passes_of rfl) rfl (pi_seqV (pv 1)) (pg_name (i := 3) scCTies.nd rfl (Or.inl rfl))
        (pss_cons (ps_if (PW.pt (pw_or (pt_not (pt_val (pe_call GU hr (by rfl) T.gUn FU.kp bU .nil pass0 (pa_cons (pv 0) (pa_cons (pv 3) pa_nil))))) (pw_or (pt_cmpR op_ne (pe_callB call_len_seq (by rfl) T.len PySem.boot_len (pa_cons (pv 3) pa_nil)) pe_int (nomark _))
            (pw_or1 (pt_cmpR (op_inSetT hu) (pe_callTy call_tuple_any (by rfl) T.i.tuple (by decide +kernel) (pa_cons (pv 3) pa_nil)) (pv 2) (by rfl))))))
          (pss_one (ps_raise rfl (takes_of rfl rfl rfl rfl) (pmk_oex XT.xc.o XT.i XT.t GIT hr2 bIT .nil pass0 (by rfl) XT.g (pa_cons (pv 3) pa_nil)))) pss_nil)
        (pss_one (ps_expr (pe_saddT hu (pv 2) (pa_cons (pe_callTy call_tuple_any (by rfl) T.i.tuple (by decide +kernel) (pa_cons (pv 3) pa_nil)) pa_nil))))))
      (pss_one ps_never))), ?_⟩
    refine ⟨_, rfl, _, d, rfl, hd, fun H1 s1 => ⟨_, rfl, ?_⟩⟩
    rcases k with ⟨hro, k⟩ | ⟨ps, d0, rest, hro, B, k⟩
    · rw [row_none hro]
      exact iteT ⟨_, rfl, mkF1 (k.same s1)⟩
    · rw [row_some hro]
      refine iteF ?_
      obtain ⟨z, zs, rfl, hz, hes⟩ := row_of2 hd hro
      have hlen := dqs_len hes
      refine ⟨rfl, fun sn nsn => ?_⟩
      have nsH : H sn = none := s1.free nsn
      have S0 : Same H (upd H1 sn (SetTO P w sn [])) := s1.trans (Same.new nsn)
      refine ⟨z, zs, H, rfl, hz, .of_same S0, fun J G w1 hG => ?_⟩
      refine for_it w1 (fun i σ H' => ∃ (v : Option V) (L : List (Addr × List Int)), σ = [some (.int (n : Int)), some (.ref z), some (.ref sn), v] ∧ H' sn = some (SetTO P w sn L) ∧ (L.map (·.2)).Perm ((ps.map row2).take i) ∧ (∀ p ∈ L, SqT K H' p.1 (p.2.map V.int)) ∧ Same H H' ∧ i ≤ ps.length)
        ⟨none, [], rfl, upd_same, .refl _, (fun p hp => by cases hp), S0, Nat.zero_le _⟩ (fun i σ H' _ ⟨_, _, _, _, _, _, s, _⟩ => hG H' (.of_same s)) ?_ ?_
      · rintro i x σ H2 H2' hi ⟨v, L, rfl, eS, pL, hL, s2, ile⟩ ⟨rfl, hx⟩
        obtain ⟨e, ee, he⟩ := dqs_get hes hx
        have he2 := Dq.kp s2 he
        have lenL : L.length = i := by
          have := pL.length_eq
          rw [List.length_map, List.length_take, List.length_map] at this
          omega
        rcases Nat.lt_or_ge i ps.length with hlt | hge
        · -- a right one
          have et : e = tieD (ps[i]'hlt) := by
            rw [List.getElem?_append_left (by rw [List.length_map]; exact hlt), List.getElem?_map, List.getElem?_eq_getElem hlt] at ee
            exact (Option.some.inj ee).symm
          subst et
          have htm : ps[i]'hlt ∈ ps := List.getElem_mem hlt
          generalize et2 : ps[i]'hlt = t at *
          have tok := B.ok t htm
          obtain ⟨b, rfl, hb⟩ := dq_tie he2
          have er : (ps.map row2)[i]? = some (row2 t) := by rw [List.getElem?_map, List.getElem?_eq_getElem hlt, et2]; rfl
          refine ⟨_, rfl, _, rfl, n, _, tieD t, rfl, he2, (fun es h => by cases Option.some.inj h; exact (by decide : 2 < 64)), fun H3 s3 => ⟨_, rfl, ?_⟩⟩
          rw [unB_tie tok]
          refine iteF ?_
          have hb3 := Same.seqT s3 hb
          refine ⟨_, rfl, b, _, rfl, .inr hb3, rfl, _, rfl, iteF ?_⟩
          refine ⟨_, rfl, b, _, rfl, .inr hb3, fun t4 H4 h4 s4 => ?_⟩
          have s34 := s3.trans s4
          have nd : (ps.map row2).Nodup := List.Pairwise.map _ (fun a b (h : a ≠ b) e => h (row2_inj e)) B.nd
          have fresh : row2 t ∉ L.map (·.2) := fun z => by
            have z2 := pL.mem_iff.mp z
            obtain ⟨j, hj, ej⟩ := List.getElem_of_mem z2
            rw [List.length_take] at hj
            rw [List.getElem_take] at ej
            obtain ⟨hi3, e3⟩ := List.getElem?_eq_some_iff.mp er
            have := (List.getElem_inj nd).mp (ej.trans e3.symm)
            omega
          refine ⟨_, rfl, sn, t4, L, row2 t, rfl, rfl, s34 _ _ eS, (fun p hp => Same.seqT s34 (hL p hp)), h4, _, rfl, ?_⟩
          rw [decide_eq_false fresh]
          refine iteF ?_
          refine ⟨_, rfl, ⟨sn, L, rfl, s34 _ _ eS⟩, _, rfl, b, _, rfl, .inr (Same.seqT s4 hb3), fun t5 H5 h5 s5 => ?_⟩
          have s35 := s34.trans s5
          have l60 := B.l60
          refine ⟨sn, t5, L, row2 t, rfl, rfl, s35 _ _ eS, (fun p hp => Same.seqT s35 (hL p hp)), h5, by omega, fun L' _ c2 => ?_⟩
          have p2 := c2 fresh
          refine ⟨_, L', rfl, upd_same, ?_, fun p hp => ?_, Same.upd_new (s2.trans s35) nsH, hlt⟩
          · rw [take_next er]
            have q1 : (L'.map (·.2)).Perm (row2 t :: L.map (·.2)) := p2.map (·.2)
            exact q1.trans ((pL.cons _).trans (List.perm_append_singleton _ _).symm)
          · rcases List.mem_cons.mp (p2.mem_iff.mp hp) with rfl | hp
            · exact seqT_offS h5 (s35 _ _ eS)
            · exact seqT_offS (Same.seqT s35 (hL p hp)) (s35 _ _ eS)
        · -- the wrong one
          have ei : i = ps.length := by omega
          subst ei
          have e0 : e = d0 := by
            have q := get_mid (l := ps.map tieD) (r := rest) (x := d0)
            rw [List.length_map] at q
            exact Option.some.inj (ee.symm.trans q)
          subst e0
          have raised := k x H (Same.refl' H) he
          refine ⟨_, rfl, _, rfl, n, _, e, rfl, he2, B.sh, fun H3 s3 => ⟨_, rfl, ?_⟩⟩
          have s23 := s2.trans s3
          cases hun : unB n e with
          | false => exact iteT ⟨_, rfl, mkF1 (raised.same s23)⟩
          | true =>
            refine iteF ?_
            have hun2 := hun
            unfold unB at hun2
            cases hroe : rowOf e with
            | none => rw [hroe] at hun2; cases hun2
            | some es =>
              rw [hroe] at hun2
              have hun2 : (es.all (belowB n) && decide (numsOf es).Nodup) = true := hun2
              rw [Bool.and_eq_true] at hun2
              obtain ⟨e1, _⟩ := all_below hun2.1
              obtain ⟨b, xs, rfl, hb, hes2⟩ := row_of2 (Dq.kp s3 he2) hroe
              rw [e1] at hes2
              obtain rfl := dqs_ints hes2
              refine ⟨_, rfl, b, _, rfl, hb, rfl, _, rfl, ?_⟩
              refine ifT (fun _ => ⟨_, rfl, mkF1 (raised.same s23)⟩) (fun h2 => ?_)
              have l2 : (numsOf es).length = 2 := by
                have h2' : (!decide (V.int (((numsOf es).map V.int).length : Nat) = V.int 2)) = false := h2
                rw [List.length_map] at h2'
                simp at h2'
                omega
              obtain ⟨u, v, euv⟩ : ∃ u v, numsOf es = [u, v] := by
                match numsOf es, l2 with
                | [u, v], _ => exact ⟨u, v, rfl⟩
              have tm : (u, v) ∈ ps := B.bad (u, v) (by rw [hroe, e1, euv]; rfl) hun
              refine ⟨_, rfl, b, _, rfl, hb, fun t4 H4 h4 s4 => ?_⟩
              have s34 := s3.trans s4
              refine ⟨_, rfl, sn, t4, L, numsOf es, rfl, rfl, s34 _ _ eS, (fun p hp => Same.seqT s34 (hL p hp)), h4, _, rfl, ?_⟩
              have inn : numsOf es ∈ L.map (·.2) := by
                refine pL.mem_iff.mpr ?_
                have : ps.length = (ps.map row2).length := by rw [List.length_map]
                rw [this, List.take_length, euv]
                exact List.mem_map.mpr ⟨(u, v), tm, rfl⟩
              rw [decide_eq_true inn]
              exact iteT ⟨_, rfl, mkF1 (raised.same (s2.trans s34))⟩
      · rintro σ H2 ⟨v, L, rfl, eS, pL, hL, s2, ile⟩
        rw [hlen, List.length_append, List.length_map, List.length_cons] at ile
        omega
end
end Y
set_option Elab.async false
set_option linter.all false
set_option maxRecDepth 100000
set_option maxHeartbeats 2000000
namespace Y
open PySem L2
abbrev sChk : Stmt := top 27
abbrev sSteps : Stmt := top 28
/-- a yard one can move in -/
structure YP (n : Nat) (ts : List (Int × Int)) (rs : List (List Int)) : Prop where
  n1 : 1 ≤ n
  n60 : n ≤ 60
  tok : ∀ t ∈ ts, TieOk n t
  rok : ∀ r ∈ rs, RingOk n r
  tl : ts.length ≤ 60
  rl : rs.length ≤ 60
theorem YdOk.yp {n : Nat} {ts : List (Int × Int)} {rs : List (List Int)} (h : YdOk n ts rs) : YP n ts rs := ⟨h.1, Nat.le_trans h.2.1 (by decide), h.2.2.1.2.1, h.2.2.2.2.1, h.2.2.2.1, Nat.le_trans h.2.2.2.2.2 (by decide)⟩
/-- a row as a tuple that can be a key -/
def RowV (H : Hp) (v : V) (r : List Int) : Prop := ∃ b, v = .ref b ∧ H b = some (.tup (r.map V.int))
theorem RowV.kp {H H' : Hp} {v : V} {r : List Int} (h : RowV H v r) (s : ∀ b xs, H b = some (.tup xs) → H' b = some (.tup xs)) : RowV H' v r := let ⟨b, e, h⟩ := h; ⟨b, e, s b _ h⟩
theorem RowV.row {K : PySem.W.Frag} {H : Hp} {v : V} {r : List Int} (h : RowV H v r) : RowAt K H v r := let ⟨b, e, h⟩ := h; ⟨b, e, .inr (SqT.of h)⟩
/-- (move, row) -/
def StepV (K : PySem.W.Frag) (H : Hp) (v : V) (s : Mv × List Int) : Prop := ∃ t m b, v = .ref t ∧ H t = some (.tup [m, b]) ∧ MvAt K H m s.1 ∧ RowV H b s.2
theorem StepV.same {K : PySem.W.Frag} {H H' : Hp} {v : V} {s : Mv × List Int} (h : StepV K H v s) (e : Same H H') : StepV K H' v s := by
  obtain ⟨t, m, b, rfl, h1, h2, h3⟩ := h
  exact ⟨t, m, b, rfl, e _ _ h1, h2.kp (.of_same e), h3.kp fun b xs => e b _⟩
theorem StepV.kp {K : PySem.W.Frag} {H H' : Hp} {v : V} {s : Mv × List Int} (h : StepV K H v s) (e : Kp H H') : StepV K H' v s := by
  obtain ⟨t, m, b, rfl, h1, h2, h3⟩ := h
  exact ⟨t, m, b, rfl, e.tup h1, h2.kp e, h3.kp fun b xs => e.tup⟩
/-- all but lists and dicts stands -/
def KpT (H H' : Hp) : Prop := ∀ b o, H b = some o → (∀ xs, o ≠ .lst xs) → (∀ kvs, o ≠ .dT kvs) → (∀ kvs, o ≠ .dK kvs) → H' b = some o
section
variable {K : PySem.W.Frag} {H H' H2 : Hp}
theorem KpT.of_same (s : Same H H') : KpT H H' := fun b o e _ _ _ => s b o e
theorem KpT.trans (a : KpT H H') (b : KpT H' H2) : KpT H H2 := fun c o e h1 h2 h3 => b c o (a c o e h1 h2 h3) h1 h2 h3
theorem KpT.lst {a : Addr} {xs : List V} {o : HO} (h : H a = some (.lst xs)) : KpT H (upd H a o) := fun b u e n _ _ => by rw [upd_ne (ne_of e h (n xs))]; exact e
theorem KpT.dt {a : Addr} {kvs : List (List Key × V)} {o : HO} (h : H a = some (.dT kvs)) : KpT H (upd H a o) := fun b u e _ n _ => by rw [upd_ne (ne_of e h (n kvs))]; exact e
theorem KpT.tup {a : Addr} {xs : List V} (s : KpT H H') (h : H a = some (.tup xs)) : H' a = some (.tup xs) := s _ _ h (fun _ z => by cases z) (fun _ z => by cases z) fun _ z => by cases z
theorem KpT.seqT {a : Addr} {xs : List V} (s : KpT H H') (h : SqT K H a xs) : SqT K H' a xs := by
  rcases h with (h | ⟨o, h⟩) | h
  · exact .inl (.inl (s.tup h))
  · exact .inl (.inr ⟨o, s _ _ h (fun _ z => by cases z) (fun _ z => by cases z) fun _ z => by cases z⟩)
  · exact .inr h
theorem KpT.mv {y : V} {m : Mv} (s : KpT H H') (h : MvAt K H y m) : MvAt K H' y m := by
  obtain ⟨b, e, h⟩ := h
  exact ⟨b, e, s.seqT h⟩
theorem KpT.row {v : V} {r : List Int} (s : KpT H H') (h : RowV H v r) : RowV H' v r := h.kp fun b xs e => s.tup e
theorem KpT.step {v : V} {p : Mv × List Int} (s : KpT H H') (h : StepV K H v p) : StepV K H' v p := by
  obtain ⟨t, m, b, rfl, h1, h2, h3⟩ := h
  exact ⟨t, m, b, rfl, s.tup h1, s.mv h2, s.row h3⟩
theorem KpT.ties {ys : List V} {ts : List (Int × Int)} (s : KpT H H') (h : Paired (TieAt K H) ys ts) : Paired (TieAt K H') ys ts := par_map (fun y r ⟨b, e, hb⟩ => ⟨b, e, s.seqT hb⟩) h
theorem KpT.rings {ys : List V} {rs : List (List Int)} (s : KpT H H') (h : Paired (RingAt K H) ys rs) : Paired (RingAt K H') ys rs := par_map (fun y r ⟨b, e, hb⟩ => ⟨b, e, s.seqT hb⟩) h
theorem KpT.yo {x : Addr} {n : Nat} {ts : List (Int × Int)} {rs : List (List Int)} (s : KpT H H') (h : YObj K H x n ts rs) : YObj K H' x n ts rs := by
  obtain ⟨C, dx, a, e, fs, ys, zs, hx, yc, lp, lt, lr, ha, pa, he, pe⟩ := h
  exact ⟨C, dx, a, e, fs, ys, zs, s _ _ hx (fun _ z => by cases z) (fun _ z => by cases z) (fun _ z => by cases z), yc, lp, lt, lr, s.seqT ha, s.ties pa, s.seqT he, s.rings pe⟩
end
def spFilT (K : PySem.W.Frag) : Sp := fun vs H Q _ => ∃ (s : Addr) (st : List Int), vs = [.ref s] ∧ SqA K H s (st.map V.int) ∧ st.length ≤ 1000 ∧ ∀ t H', H' t = some (.tup ((filL st).map V.int)) → Same H H' → Q (.ref t) H'
def spChk (K : PySem.W.Frag) : Sp := fun vs H Q _ => ∃ (x : Addr) (y : V) (n : Nat) (ts : List (Int × Int)) (rs : List (List Int)) (r : List Int), vs = [.ref x, y] ∧ YObj K H x n ts rs ∧ RowAt K H y r ∧ FilOk n r ∧ n ≤ 60 ∧ ∀ H', Same H H' → Q .non H'
def spSteps (K : PySem.W.Frag) : Sp := fun vs H Q _ => ∃ (x : Addr) (y : V) (n : Nat) (ts : List (Int × Int)) (rs : List (List Int)) (r : List Int), vs = [.ref x, y] ∧ YObj K H x n ts rs ∧ YP n ts rs ∧ RowAt K H y r ∧ FilOk n r ∧
  ∀ l ys H', H l = none → H' l = some (.lst ys) → Paired (StepV K H') ys (stepsR n ts rs r) → Same H H' → Q (.ref l) H'
theorem Same.none {H H' : Hp} {a : Addr} (s : Same H H') (n : H' a = none) : H a = none := by
  cases e : H a with
  | none => rfl
  | some o => rw [s _ _ e] at n; cases n
theorem oneTo {n m : Nat} {r : List Int} : ((List.range (m + 1)).map fun i => if ((i : Nat) : Int) ∈ r then (1 : Int) else 0) = ((List.range m).map fun i => if ((i : Nat) : Int) ∈ r then (1 : Int) else 0) ++ [if ((m : Nat) : Int) ∈ r then 1 else 0] := by
  rw [List.range_succ, List.map_append]
  rfl
section
variable {P : Program} {w : World} {K : PySem.W.Frag} {mg : Str → Option Value} {base : Heap} {fUn fFil fMA fFld fBeh : Addr}
theorem ok_filT {f : Addr} {fd : FuncData} (F : Fun K "filled" "filled" sFilled f fd) (T : TR K mg fUn) : FnOk P w K mg base CX0 1 f fd ["stand"] (spFilT K) := by
  refine F.ok scFilled (fun vs H Q E h => ?_) (fun cdv A outer s H vs Q E hr h => ?_)
  · obtain ⟨s, st, rfl, _⟩ := h
    rfl
  · obtain ⟨s, st, rfl, hs, hl, k⟩ := h
    refine ⟨_, pss_one (ps_ret (pe_callTy call_tuple_of (by rfl) T.i.tuple (by decide +kernel) (pa_cons
      (pe_lc (own := [("place", 1), ("thing", 2)]) (g := gTup K 2 (gCons (gName 1) (gCons (gName 2) gNil))) rfl scFilled.nd (pi_enumV (by rfl) T.enum (pv 0)) (blkOk_by (N := ["stand", "place", "thing"]) (sc := defScope sFilled) (by decide +kernel))
        (fun _ _ _ _ _ => pgT (K := K) (n := 2) rfl rfl (pgs_cons (pg_name (i := 1) scFilled.nd rfl (Or.inl rfl)) (pgs_cons (pg_name (i := 2) scFilled.nd rfl (Or.inl rfl)) pgs_nil)) rfl rfl)
        (fun _ _ _ _ _ => pts_one (pt_cmpR op_ne (pv 2) pe_int (nomark _))) (fun _ _ _ _ _ => pv 1)) pa_nil))), ?_⟩
    refine ⟨s, st.map V.int, H, rfl, hs, .refl H, fun J G w1 hG D hD => ?_⟩
    refine lc_it w1 (fun i H' => H' D = some (.lst ((filTo st i).map V.int)) ∧ Same H H') ⟨upd_same, Same.new hD⟩ (fun i H' _ h => hG H' (.of_same h.2)) ?_ ?_
    · rintro i v H1 H2 hi ⟨eD, s1⟩ ⟨T1, u, y, rfl, nT, rfl, e1, e2⟩
      cases Option.some.inj e1
      rw [List.length_map] at hi
      have hy := e2.symm.trans (getD_at hi)
      cases Option.some.inj hy
      have e3 := Same.new nT (o := .tup [.int (i : Nat), .int (st.getD i 0)]) _ _ eD
      have s2 := s1.trans (Same.new (o := .tup [.int (i : Nat), .int (st.getD i 0)]) nT)
      refine ⟨T1, _, rfl, SqT.of upd_same, rfl, _, _, rfl, _, _, rfl, rfl, rfl, ?_⟩
      refine ⟨_, rfl, rfl, _, rfl, ?_⟩
      by_cases h0 : st.getD i 0 ≠ 0
      · rw [show (!decide (V.int (st.getD i 0) = V.int 0)) = true by rw [decide_eq_false (fun z => h0 (by injection z))]; rfl]
        refine iteT ⟨_, rfl, (filTo st i).map V.int, e3, ?_, ?_, Same.upd_new s2 hD⟩
        · have := filTo_len st i
          rw [List.length_map]
          exact Nat.lt_of_le_of_lt (by omega : _ ≤ 1000) (by decide)
        · rw [upd_same, filTo_succ, if_pos h0, List.map_append]
          rfl
      · have z0 : st.getD i 0 = 0 := Classical.not_not.mp h0
        rw [show (!decide (V.int (st.getD i 0) = V.int 0)) = false by rw [z0]; rfl]
        refine iteF ⟨?_, s2⟩
        rw [filTo_succ, if_neg h0]
        exact e3
    · rintro H1 ⟨eD, s1⟩
      rw [List.length_map] at eD
      exact ⟨D, _, rfl, .inl ⟨SqL.of eD, fun t nt => k t _ upd_same (s1.trans (Same.new nt))⟩⟩
theorem scChk : FnScope ["yard", "row"] ["yard", "row"] (defScope sChk) := ⟨rfl, rfl, rfl, by decide +kernel, rfl, by decide +kernel, by decide +kernel⟩
theorem ok_chk {f : Addr} {fd fdF : FuncData} (F : Fun K "check_row" "check_row" sChk f fd) (gF : mg "is_filled_row" = some (.ref fFil)) (GF : FnOk P w K mg base CX0 4 fFil fdF ["yard", "value"] (spIsFilled K)) (FF : Fun K "is_filled_row" "is_filled_row" sIsFilled fFil fdF) (bF : Binds K fdF ["yard", "value"] []) :
    FnOk P w K mg base CX0 5 f fd ["yard", "row"] (spChk K) := by
  refine F.ok scChk (fun vs H Q E h => ?_) (fun cdv A outer s H vs Q E hr h => ?_)
  · obtain ⟨x, y, n, ts, rs, r, rfl, _⟩ := h
    rfl
  · obtain ⟨x, y, n, ts, rs, r, rfl, hy, hrow, ok, n60, k⟩ := h
    refine ⟨_, pss_one (ps_if (pt_not (pt_val (pe_call GF hr (by rfl) gF FF.kp bF .nil pass0 (pa_cons (pv 0) (pa_cons (pv 1) pa_nil))))) (pss_one ps_never) pss_nil), ?_⟩
    exact ⟨_, rfl, _, rfl, x, _, n, ts, rs, r, rfl, hy, hrow, ok, n60, fun H0 s0 => ⟨_, rfl, iteF (k H0 s0)⟩⟩
theorem scSteps : FnScope ["yard", "row", "stand", "place", "move"] ["yard", "row"] (defScope sSteps) := ⟨rfl, rfl, rfl, by decide +kernel, rfl, by decide +kernel, by decide +kernel⟩
theorem ok_steps {f : Addr} {fd fdM fdF fdB : FuncData} (F : Fun K "steps_at" "steps_at" sSteps f fd) (T : TR K mg fUn) (gM : mg "moves_at" = some (.ref fMA)) (gF : mg "filled" = some (.ref fFld)) (gB : mg "behind_move" = some (.ref fBeh))
    (GM : FnOk P w K mg base CX0 5 fMA fdM ["yard", "row"] (spMovesAt K)) (FM : Fun K "moves_at" "moves_at" sMovesAt fMA fdM) (bM : Binds K fdM ["yard", "row"] [])
    (GF : FnOk P w K mg base CX0 1 fFld fdF ["stand"] (spFilT K)) (FF : Fun K "filled" "filled" sFilled fFld fdF) (bF : Binds K fdF ["stand"] [])
    (GB : FnOk P w K mg base CX0 1 fBeh fdB ["yard", "stand", "move"] (spBehind K)) (FB : Fun K "behind_move" "behind_move" sBehind fBeh fdB) (bB : Binds K fdB ["yard", "stand", "move"] []) :
    FnOk P w K mg base CX0 6 f fd ["yard", "row"] (spSteps K) := by
  refine F.ok scSteps (fun vs H Q E h => ?_) (fun cdv A outer s H vs Q E hr h => ?_)
  · obtain ⟨x, y, n, ts, rs, r, rfl, _⟩ := h
    rfl
  · obtain ⟨x, y, n, ts, rs, r, rfl, hy, yp, ⟨rb, rfl, hb⟩, ok, k⟩ := h
    have hr1 : Room 1 _ := hr.mono (by decide)
    refine ⟨_, pss_cons (ps_set (i := 2) scSteps.nd rfl (Or.inr rfl)
        (pe_lc (own := [("place", 3)]) (g := gName 3) (tt := tYes) rfl scSteps.nd (pi_range1 (by rfl) T.range (pa_cons (pe_fld (pv 0) rfl) pa_nil)) (blkOk_by (N := ["yard", "row", "stand", "place", "move"]) (sc := defScope sSteps) (by decide +kernel))
          (fun _ _ _ _ _ => pg_name (i := 3) scSteps.nd rfl (Or.inl rfl)) (fun _ _ _ _ _ => pts_nil) (fun _ _ _ _ _ => pe_ifExp (pt_cmpR (op_inK (K := K) rfl) (pv 3) (pv 1) (by rfl)) pe_int pe_int)))
      (pss_one (ps_ret (pe_lc (own := [("move", 4)]) (g := gName 4) (tt := tYes) rfl scSteps.nd (pi_tup (pe_call GM hr (by rfl) gM FM.kp bM .nil pass0 (pa_cons (pv 0) (pa_cons (pv 1) pa_nil)))) (blkOk_by (N := ["yard", "row", "stand", "place", "move"]) (sc := defScope sSteps) (by decide +kernel))
          (fun _ _ _ _ _ => pg_name (i := 4) scSteps.nd rfl (Or.inl rfl)) (fun _ _ _ _ _ => pts_nil)
          (fun _ _ _ _ _ => pe_tup (pa_cons (pv 4) (pa_cons (pe_call GF hr1 (by rfl) gF FF.kp bF .nil pass0 (pa_cons (pe_call GB hr1 (by rfl) gB FB.kp bB .nil pass0 (pa_cons (pv 0) (pa_cons (pv 2) (pa_cons (pv 4) pa_nil)))) pa_nil)) pa_nil)))))), ?_⟩
    have n60 := yp.n60
    obtain ⟨C, dx, a, e, fs, tys, zs, hx, yc, lp, lt, lr, ha, pa, he, pe⟩ := id hy
    refine ⟨_, rfl, x, C, dx, fs, _, rfl, hx, yc.c, yc.p, lp, (n : Int), rfl, by omega, by omega, fun D hD => ?_⟩
    refine lc_range (lo := 0) (n := ((n : Int)).toNat) (fun i H' => H' D = some (.lst (((List.range i).map fun i => if ((i : Nat) : Int) ∈ r then (1 : Int) else 0).map V.int)) ∧ Same H H') ⟨upd_same, Same.new hD⟩ (fun i H1 hi h => ?_) (fun H1 h => ?_)
    · obtain ⟨eD, s1⟩ := h
      have fin : ∀ z : Int, (z = if ((i : Nat) : Int) ∈ r then 1 else 0) → ∃ acc, H1 D = some (.lst acc) ∧ acc.length < sizeLine ∧ (upd H1 D (.lst (acc ++ [V.int z]))) D = some (.lst (((List.range (i + 1)).map fun i => if ((i : Nat) : Int) ∈ r then (1 : Int) else 0).map V.int)) ∧ Same H (upd H1 D (.lst (acc ++ [V.int z]))) := fun z hz =>
        ⟨_, eD, by rw [List.length_map, List.length_map, List.length_range]; exact Nat.lt_of_lt_of_le (by omega : i < 61) (by decide), by rw [upd_same, oneTo (n := n), List.map_append, hz]; rfl, Same.upd_new s1 hD⟩
      refine ⟨rfl, ?_⟩
      refine ⟨_, rfl, _, rfl, rb, _, rfl, Same.seqA s1 hb, rfl, flat_intsV r, _, rfl, ?_⟩
      rw [in_ints]
      refine ifT (fun c => fin 1 ?_) (fun c => fin 0 ?_)
      · have c := of_decide_eq_true c
        rw [Int.zero_add] at c
        rw [if_pos c]
      · have c := of_decide_eq_false c
        rw [Int.zero_add] at c
        rw [if_neg c]
    · obtain ⟨eD, s1⟩ := h
      have eD : H1 D = some (.lst ((oneAt n r).map V.int)) := by
        have h := eD
        rw [show ((n : Int)).toNat = n by omega] at h
        exact h
      refine ⟨_, rfl, _, rfl, x, _, n, ts, rs, r, rfl, hy.kp (.of_same s1), ⟨rb, rfl, Same.seqA s1 hb⟩, ok, n60, Nat.le_trans yp.tl (by decide), Nat.le_trans yp.rl (by decide), fun t ms H2 ht hms s2 => ?_⟩
      have s12 := s1.trans s2
      have eD2 := s2 _ _ eD
      refine ⟨t, rfl, ⟨_, ht⟩, fun D2 hD2 => ?_⟩
      refine lc_tup (K := K) (a := t) (xs := ms) (fun i H' => ∃ ys, H' D2 = some (.lst ys) ∧ Paired (StepV K H') ys ((stepsR n ts rs r).take i) ∧ ys.length = i ∧ Same H2 H') ⟨[], upd_same, .nil, rfl, Same.new hD2⟩ (fun i H' _ ⟨_, _, _, _, s⟩ => Same.seqT s ht) (fun i v H3 hv h => ?_) (fun H3 h => ?_)
      · obtain ⟨ys, eY, py, ly, s3⟩ := h
        obtain ⟨m, em, hm⟩ := par_get hms hv
        have hmem := List.mem_of_getElem? em
        have hi : i < (movesR ts rs r).length := (List.getElem?_eq_some_iff.mp em).1
        have hlen : (movesR ts rs r).length ≤ 120 := by
          have h1 := List.length_filter_le (canR r) ts
          have h2 := yp.tl
          have h3 := yp.rl
          unfold movesR turns
          rw [List.length_append, List.length_map, List.length_map, List.length_range]
          omega
        have hy3 := hy.kp (.of_same (s12.trans s3))
        have hm3 := hm.kp (.of_same s3)
        have c := one_can (n := n) yp.tok hmem
        refine ⟨rfl, ?_⟩
        refine ⟨_, rfl, _, rfl, _, rfl, _, rfl, x, D, _, n, ts, rs, oneAt n r, m, rfl, hy3, by omega, yp.rok, .inl (SqL.of (s3 _ _ eD2)), oneAt_len n r, hm3, c, fun l H4 el s4 => ?_⟩
        refine ⟨l, _, rfl, .inl (SqL.of el), by rw [stepMv_len, oneAt_len]; omega, fun t' H5 et s5 => ?_⟩
        refine ⟨(by show 2 ≤ sizeLine; decide), fun q nq => ?_⟩
        have sq := Same.new (o := .tup [v, .ref t']) nq
        have s35 := (s4.trans s5).trans sq
        have eY5 := s35 _ _ eY
        refine ⟨ys, eY5, by rw [ly]; exact Nat.lt_of_lt_of_le (by omega : i < 121) (by decide), ys ++ [.ref q], upd_same, ?_, by rw [List.length_append, ly]; rfl, Same.upd_new (s3.trans s35) hD2⟩
        have e1 : (stepsR n ts rs r)[i]? = some (m, stepR n rs r m) := by
          unfold stepsR
          rw [List.getElem?_map, em]
          rfl
        rw [take_next e1]
        have keepY : ∀ y s, StepV K H3 y s → StepV K (upd (upd H5 q (.tup [v, .ref t'])) D2 (.lst (ys ++ [.ref q]))) y s := fun y s h => by
          obtain ⟨t1, m1, b1, rfl, h1, h2, b2, rfl, h3⟩ := h.same s35
          have ne : ∀ {b : Addr} {xs : List V}, (upd H5 q (.tup [v, .ref t'])) b = some (.tup xs) → b ≠ D2 := fun e => ne_of e eY5 (by intro z; cases z)
          exact ⟨t1, m1, _, rfl, by rw [upd_ne (ne h1)]; exact h1, h2.off eY5, b2, rfl, by rw [upd_ne (ne h3)]; exact h3⟩
        have qD : q ≠ D2 := ne_of (upd_same (H := H5) (a := q) (o := .tup [v, .ref t'])) eY5 (by intro z; cases z)
        have tD : t' ≠ D2 := ne_of (sq _ _ et) eY5 (by intro z; cases z)
        exact par_snoc (par_map keepY py) ⟨q, v, .ref t', rfl, by rw [upd_ne qD]; exact upd_same, ((hm3.kp (.of_same s35))).off eY5, t', rfl, by rw [upd_ne tD]; exact sq _ _ et⟩
      · obtain ⟨ys, eY, py, ly, s3⟩ := h
        have lm : ms.length = (stepsR n ts rs r).length := by
          unfold stepsR
          rw [List.length_map]
          exact Paired.length hms
        rw [lm, List.take_length] at py
        exact k D2 ys H3 (Same.none s12 hD2) eY py (s12.trans s3)
end
end Y
set_option Elab.async false
set_option linter.all false
set_option maxRecDepth 100000
set_option maxHeartbeats 2000000
namespace Y
open PySem L2
abbrev sWays : Stmt := top 29
/-! ### dicts whose keys are rows -/
def keyR (r : List Int) : List Key := r.map Sum.inl
theorem keyR_inj : ∀ {r s : List Int}, keyR r = keyR s → r = s
  | [], [], _ => rfl
  | [], _ :: _, h => by cases h
  | _ :: _, [], h => by cases h
  | a :: r, b :: s, h => by
    injection h with h1 h2
    injection h1 with h1
    rw [h1, keyR_inj h2]
theorem keyR_kV (r : List Int) : (keyR r).map kV = r.map V.int := by
  unfold keyR
  rw [List.map_map]
  rfl
theorem RowV.key {H : Hp} {v : V} {r : List Int} (h : RowV H v r) : ∃ b, v = .ref b ∧ H b = some (.tup ((keyR r).map kV)) := by
  obtain ⟨b, e, h⟩ := h
  exact ⟨b, e, by rw [keyR_kV]; exact h⟩
section
variable {α : Type} {F : V → α → Prop}
/-- kvs holds at the key r of each (r, z) of ps what F tells of z -/
abbrev KVs (F : V → α → Prop) (kvs : List (List Key × V)) (ps : List (List Int × α)) : Prop := Paired (fun kv p => kv.1 = keyR p.1 ∧ F kv.2 p.2) kvs ps
theorem KVs.none {kvs : List (List Key × V)} {ps : List (List Int × α)} (h : KVs F kvs ps) {r : List Int} (hr : r ∉ ps.map (·.1)) : valV kvs (keyR r) = none := by
  induction h with
  | nil => rfl
  | cons a _ ih =>
    rw [List.map_cons, List.mem_cons, not_or] at hr
    rw [valV_neg fun e => hr.1 (keyR_inj (e.symm.trans a.1))]
    exact ih hr.2
theorem KVs.at {kvs : List (List Key × V)} {ps : List (List Int × α)} (h : KVs F kvs ps) (nd : (ps.map (·.1)).Nodup) {p : List Int × α} (hp : p ∈ ps) : ∃ v, valV kvs (keyR p.1) = some v ∧ F v p.2 := by
  induction h with
  | nil => cases hp
  | cons a _ ih =>
    rw [List.map_cons] at nd
    have n1 := List.nodup_cons.mp nd
    rcases List.mem_cons.mp hp with rfl | hp
    · exact ⟨_, valV_pos a.1, a.2⟩
    · rw [valV_neg fun e => n1.1 (by rw [show _ = p.1 from keyR_inj (a.1.symm.trans e)]; exact List.mem_map.mpr ⟨p, hp, rfl⟩)]
      exact ih n1.2 hp
theorem KVs.snoc {kvs : List (List Key × V)} {ps : List (List Int × α)} (h : KVs F kvs ps) {r : List Int} {v : V} {z : α} (hr : r ∉ ps.map (·.1)) (hv : F v z) : KVs F (putK kvs (keyR r) v) (ps ++ [(r, z)]) := by
  rw [putK_new v (h.none hr)]
  exact par_snoc h ⟨rfl, hv⟩
theorem KVs.some_iff {kvs : List (List Key × V)} {ps : List (List Int × α)} (h : KVs F kvs ps) (nd : (ps.map (·.1)).Nodup) {r : List Int} : (valV kvs (keyR r)).isSome = decide (r ∈ ps.map (·.1)) := by
  by_cases c : r ∈ ps.map (·.1)
  · obtain ⟨p, hp, rfl⟩ := List.mem_map.mp c
    obtain ⟨v, e, _⟩ := h.at nd hp
    rw [e, decide_eq_true c]
    rfl
  · rw [h.none c, decide_eq_false c]
    rfl
theorem KVs.mono {F' : V → α → Prop} {kvs : List (List Key × V)} {ps : List (List Int × α)} (h : KVs F kvs ps) (f : ∀ v z, F v z → F' v z) : KVs F' kvs ps := par_map (fun kv p hk => ⟨hk.1, f _ _ hk.2⟩) h
theorem KVs.len {kvs : List (List Key × V)} {ps : List (List Int × α)} (h : KVs F kvs ps) : kvs.length = ps.length := Paired.length h
end
/-- a row of moves as a tuple -/
def MvsV (K : PySem.W.Frag) (H : Hp) (v : V) (ms : List Mv) : Prop := ∃ q ys, v = .ref q ∧ SqT K H q ys ∧ MvsAt K H ys ms
theorem MvsV.kpT {K : PySem.W.Frag} {H H' : Hp} {v : V} {ms : List Mv} (h : MvsV K H v ms) (s : KpT H H') : MvsV K H' v ms := let ⟨q, ys, e, h1, h2⟩ := h; ⟨q, ys, e, s.seqT h1, par_map (fun _ _ h => s.mv h) h2⟩
theorem MvsV.kp {K : PySem.W.Frag} {H H' : Hp} {v : V} {ms : List Mv} (h : MvsV K H v ms) (s : Kp H H') : MvsV K H' v ms := let ⟨q, ys, e, h1, h2⟩ := h; ⟨q, ys, e, s.seqT h1, par_map (fun _ _ h => h.kp s) h2⟩
def WaysD (K : PySem.W.Frag) (H : Hp) (d : Addr) (W : List Way) : Prop := ∃ kvs, H d = some (.dT kvs) ∧ KVs (MvsV K H) kvs W
theorem addW_len {p : List Mv} {W : List Way} {s : Mv × List Int} {k : Nat} (hp : p.length ≤ k) (h : ∀ w ∈ W, w.2.length ≤ k + 1) : ∀ w ∈ addW p W s, w.2.length ≤ k + 1 := fun w hw => by
  unfold addW at hw
  split at hw
  · exact h w hw
  · rcases List.mem_append.mp hw with hw | hw
    · exact h w hw
    · rw [List.mem_singleton.mp hw, List.length_append]
      exact Nat.succ_le_succ hp
theorem foldW_len {p : List Mv} {k : Nat} (hp : p.length ≤ k) : ∀ {l : List (Mv × List Int)} {W : List Way}, (∀ w ∈ W, w.2.length ≤ k + 1) → ∀ w ∈ l.foldl (addW p) W, w.2.length ≤ k + 1
  | [], _, h => h
  | s :: l, W, h => foldW_len (l := l) (W := addW p W s) hp (addW_len hp h)
theorem reach_wlen (S : List Int → List (Mv × List Int)) (r : List Int) : ∀ i, ∀ w ∈ reachW S r i, w.2.length ≤ i
  | 0, w, hw => by rw [List.mem_singleton.mp hw]; exact Nat.le_refl 0
  | i + 1, w, hw => by
    have ih := reach_wlen S r i
    have hw : w ∈ expandW S (reachW S r i) i := hw
    unfold expandW at hw
    split at hw
    · exact Nat.le_succ_of_le (ih w hw)
    · rename_i w' hw'
      exact foldW_len (ih w' (List.mem_of_getElem? hw')) (fun u hu => Nat.le_succ_of_le (ih u hu)) w hw
def spWays (K : PySem.W.Frag) : Sp := fun vs H Q _ => ∃ (x : Addr) (y : V) (n : Nat) (ts : List (Int × Int)) (rs : List (List Int)) (r : List Int), vs = [.ref x, y] ∧ YObj K H x n ts rs ∧ YP n ts rs ∧ n ≤ 12 ∧ RowV H y r ∧ FilOk n r ∧
  ∀ d k H', WaysD K H' d (reachW (stepsR n ts rs) r k) → (reachW (stepsR n ts rs) r k).length ≤ k → H d = none → Same H H' → Q (.ref d) H'
theorem iteT' {c : Bool} {A B : Prop} (h : c = true) (a : A) : if c = true then A else B := by rw [if_pos h]; exact a
theorem iteF' {c : Bool} {A B : Prop} (h : c = false) (b : B) : if c = true then A else B := by rw [if_neg (by rw [h]; exact Bool.false_ne_true)]; exact b
theorem pow12 {n : Nat} (h : n ≤ 12) : 2 ^ n ≤ 4096 := Nat.pow_le_pow_right (by decide : 0 < 2) h
section
variable {n : Nat} {ts : List (Int × Int)} {rs : List (List Int)} {r : List Int}
theorem lot_fil (ok : FilOk n r) (i : Nat) : ∀ w ∈ reachW (stepsR n ts rs) r i, FilOk n w.1 := reach_all (P := FilOk n) ok (fun x _ s hs => by
  unfold stepsR at hs
  obtain ⟨m, _, rfl⟩ := List.mem_map.mp hs
  exact stepR_ok x m) i
theorem lot_len (ok : FilOk n r) (i : Nat) : (reachW (stepsR n ts rs) r i).length ≤ 2 ^ n := by
  have h := fils_len (n := n) (reach_nodup (stepsR n ts rs) r i) fun x hx => by
    obtain ⟨w, hw, rfl⟩ := List.mem_map.mp hx
    exact lot_fil ok i w hw
  rwa [List.length_map] at h
/-- while more is put in, too -/
theorem lot_len2 {W : List Way} (nd : (W.map (·.1)).Nodup) (h : ∀ w ∈ W, FilOk n w.1) : W.length ≤ 2 ^ n := by
  have := fils_len (n := n) nd fun x hx => by
    obtain ⟨w, hw, rfl⟩ := List.mem_map.mp hx
    exact h w hw
  rwa [List.length_map] at this
end
section
variable {P : Program} {w : World} {K : PySem.W.Frag} {mg : Str → Option Value} {base : Heap} {fSt : Addr}
theorem scWays : FnScope ["yard", "row", "start", "ways", "found", "at", "now", "move", "behind"] ["yard", "row"] (defScope sWays) := ⟨rfl, rfl, rfl, by decide +kernel, rfl, by decide +kernel, by decide +kernel⟩
theorem ok_ways {f : Addr} {fd fdS : FuncData} (F : Fun K "ways_from" "ways_from" sWays f fd) (gT : mg "tuple" = none) (gL : mg "len" = none) (gS : mg "steps_at" = some (.ref fSt)) (GS : FnOk P w K mg base CX0 6 fSt fdS ["yard", "row"] (spSteps K)) (FS : Fun K "steps_at" "steps_at" sSteps fSt fdS) (bS : Binds K fdS ["yard", "row"] []) :
    FnOk P w K mg base CX0 7 f fd ["yard", "row"] (spWays K) := by
  refine F.ok scWays (fun vs H Q E h => ?_) (fun cdv A outer s H vs Q E hr h => ?_)
  · obtain ⟨x, y, n, ts, rs, r, rfl, _⟩ := h
    rfl
  · obtain ⟨x, y, n, ts, rs, r, rfl, hy, yp, n12, ⟨b0, rfl, hb0⟩, ok, k⟩ := h
    have hu := hu_of hr
    refine ⟨_, pss_cons (ps_set (i := 2) scWays.nd rfl (Or.inl rfl) (pe_callTy call_tuple_of (by rfl) gT (by decide +kernel) (pa_cons (pv 1) pa_nil)))
      (pss_cons (ps_set (i := 3) scWays.nd rfl (Or.inl rfl) (pe_disp1T hu (pv 2) (pe_tup pa_nil)))
      (pss_cons (ps_set (i := 4) scWays.nd rfl (Or.inl rfl) (pe_lst (pa_cons (pv 2) pa_nil)))
      (pss_cons (ps_set (i := 5) scWays.nd rfl (Or.inl rfl) pe_int)
      (pss_cons (ps_while PassesOwn.never (pt_cmp (pc_lt (pv 5) (pe_callB call_len_seq (by rfl) gL PySem.boot_len (pa_cons (pv 4) pa_nil))))
        (pss_cons (ps_set (i := 6) scWays.nd rfl (Or.inl rfl) (pe_ix ix_list (pv 4) (pv 5) (fun _ _ => rfl)))
        (pss_cons (ps_for PassesOwn.never rfl (pi_list (pe_call GS hr (by rfl) gS FS.kp bS .nil pass0 (pa_cons (pv 0) (pa_cons (pv 6) pa_nil)))) (pg_tup rfl (pgs_cons (pg_name (i := 7) scWays.nd rfl (Or.inl rfl)) (pgs_cons (pg_name (i := 8) scWays.nd rfl (Or.inl rfl)) pgs_nil)))
          (pss_one (ps_if (pt_cmp (pc_dnotin hu (pv 8) (pv 3)))
            (pss_cons (ps_dput hu (pv 3) (pv 8) (pe_op op_catU (pe_dget hu (pv 3) (pv 6) (fun _ _ => rfl)) (pe_tup (pa_cons (pv 7) pa_nil))) rfl)
            (pss_one (ps_expr (pe_bm PySem.F.plainAttrs_list PySem.F.slot_list_append PySem.F.type_list_append mt_append (pv 4) (pa_cons (pv 8) pa_nil))))) pss_nil)))
        (pss_one (ps_aug (i := 5) scWays.nd rfl (Or.inl rfl) pe_int ip_add)))))
      (pss_one (ps_ret (pv 3))))))), ?_⟩
    have S0 : (reachW (stepsR n ts rs) r 0) = [(r, [])] := rfl
    refine ⟨_, rfl, b0, _, rfl, .inr ⟨SqT.of hb0, ?_⟩⟩
    refine fun d nd => ⟨_, rfl, (by show 0 ≤ sizeLine; decide), fun q nq => ?_⟩
    have hqd : d ≠ q := ne_of_none (upd_same (H := H) (a := d) (o := .dT [])) nq
    have s1 : Same H (upd (upd H d (.dT [])) q (.tup [])) := (Same.new nd).trans (Same.new nq)
    refine ⟨b0, keyR r, rfl, by rw [keyR_kV]; exact s1 _ _ hb0, by rw [upd_ne hqd]; exact upd_same, ?_⟩
    have s2 := Same.upd_new (o := .dT [(keyR r, V.ref q)]) s1 nd
    have ed0 : (upd (upd (upd H d (.dT [])) q (.tup [])) d (.dT [(keyR r, V.ref q)])) d = some (.dT [(keyR r, V.ref q)]) := upd_same
    have eq0 : (upd (upd (upd H d (.dT [])) q (.tup [])) d (.dT [(keyR r, V.ref q)])) q = some (.tup []) := by rw [upd_ne (Ne.symm hqd)]; exact upd_same
    generalize upd (upd (upd H d (.dT [])) q (.tup [])) d (.dT [(keyR r, V.ref q)]) = H1 at s2 ed0 eq0 ⊢
    refine ⟨_, rfl, (by show 1 ≤ sizeLine; decide), fun l nl => ?_⟩
    have s3 := Same.new (o := .lst [V.ref b0]) nl
    have s23 := s2.trans s3
    refine while_by (fun σ H' => ∃ (i : Nat) (kvs : List (List Key × V)) (vs : List V) (v6 v7 v8 : Option V), σ = [some (.ref x), some (.ref b0), some (.ref b0), some (.ref d), some (.ref l), some (.int (i : Nat)), v6, v7, v8] ∧ i ≤ (reachW (stepsR n ts rs) r i).length ∧
        H' d = some (.dT kvs) ∧ KVs (MvsV K H') kvs (reachW (stepsR n ts rs) r i) ∧ H' l = some (.lst vs) ∧ Paired (RowV H') vs ((reachW (stepsR n ts rs) r i).map (·.1)) ∧ Same H H')
      (fun (σ : L2.St) _ => match σ[5]? with | some (some (V.int i)) => 5000 - i.toNat | _ => 0)
      ⟨0, _, _, none, none, none, rfl, Nat.zero_le _, s3 _ _ ed0, .cons ⟨rfl, q, [], rfl, SqT.of (s3 _ _ eq0), .nil⟩ .nil, upd_same, .cons ⟨b0, rfl, s23 _ _ hb0⟩ .nil, s23⟩ ?_ ?_
    · rintro σ H2 ⟨i, kvs, vs, v6, v7, v8, rfl, hi, ed, hk, el, hv, sH⟩
      have lv : vs.length = (reachW (stepsR n ts rs) r i).length := by rw [Paired.length hv, List.length_map]
      have l4 : (reachW (stepsR n ts rs) r i).length ≤ 4096 := Nat.le_trans (lot_len ok i) (pow12 n12)
      refine ⟨_, rfl, _, rfl, l, vs, rfl, .inl (SqL.of el), _, _, rfl, rfl, _, rfl, ?_⟩
      by_cases c : i < vs.length
      · refine iteT' (show decide ((i : Int) < (vs.length : Int)) = true from decide_eq_true (by omega)) ?_
        obtain ⟨wnow, hw⟩ : ∃ wnow, (reachW (stepsR n ts rs) r i)[i]? = some wnow := ⟨_, List.getElem?_eq_getElem (by omega)⟩
        obtain ⟨vnow, hvn⟩ : ∃ vnow, vs[i]? = some vnow := ⟨_, List.getElem?_eq_getElem c⟩
        have hnow : RowV H2 vnow wnow.1 := by
          obtain ⟨r', e, h⟩ := par_get hv hvn
          rw [List.getElem?_map, hw] at e
          cases e
          exact h
        have mnow : wnow ∈ reachW (stepsR n ts rs) r i := List.mem_of_getElem? hw
        have oknow := lot_fil ok i wnow mnow
        refine ⟨_, rfl, _, rfl, l, vs, ((i : Nat) : Int), _, rfl, rfl, SqL.of el, atI_nat (j := i) hvn, ?_⟩
        refine ⟨_, rfl, _, rfl, x, vnow, n, ts, rs, wnow.1, rfl, hy.kp (.of_same sH), yp, hnow.row, oknow, fun ls ys H3 nls els pst s4 => ⟨ls, rfl, ⟨_, SqL.of els⟩, ?_⟩⟩
        have eW : reachW (stepsR n ts rs) r (i + 1) = (stepsR n ts rs wnow.1).foldl (addW wnow.2) (reachW (stepsR n ts rs) r i) := by
          show expandW _ _ i = _
          unfold expandW
          rw [hw]
        have lys : ys.length = (stepsR n ts rs wnow.1).length := Paired.length pst
        have dl : d ≠ l := ne_of ed el (by intro z; cases z)
        have dls : d ≠ ls := ne_of_none ed nls
        have lls : l ≠ ls := ne_of_none el nls
        refine for_list (K := K) (a := ls) (xs := ys) (fun j σ H' => ∃ (kvs : List (List Key × V)) (vs : List V) (v7 v8 : Option V), σ = [some (.ref x), some (.ref b0), some (.ref b0), some (.ref d), some (.ref l), some (.int (i : Nat)), some vnow, v7, v8] ∧
            H' d = some (.dT kvs) ∧ KVs (MvsV K H') kvs (((stepsR n ts rs wnow.1).take j).foldl (addW wnow.2) (reachW (stepsR n ts rs) r i)) ∧ H' l = some (.lst vs) ∧ Paired (RowV H') vs ((((stepsR n ts rs wnow.1).take j).foldl (addW wnow.2) (reachW (stepsR n ts rs) r i)).map (·.1)) ∧ Same H H' ∧ KpT H3 H' ∧ H' ls = some (.lst ys))
          ⟨kvs, vs, v7, v8, rfl, s4 _ _ ed, hk.mono fun v z h => h.kpT (.of_same s4), s4 _ _ el, par_map (fun v z h => h.kp fun b xs => s4 b _) hv, sH.trans s4, .of_same (Same.refl' _), els⟩ (fun j σ H' _ ⟨_, _, _, _, _, _, _, _, _, _, _, e⟩ => SqL.of e) ?_ ?_
        · rintro j v σ H4 hj ⟨kvs, vs, v7, v8, rfl, ed, hk, el, hv, sH, s34, els⟩
          obtain ⟨st, est, hst⟩ := par_get pst hj
          obtain ⟨t, m, bv, rfl, ht, hm, hb⟩ := s34.step hst
          have hb' := hb
          obtain ⟨bb, rfl, hbb⟩ := hb.key
          have nodW : ((((stepsR n ts rs wnow.1).take j).foldl (addW wnow.2) (reachW (stepsR n ts rs) r i)).map (·.1)).Nodup := foldW_nodup (reach_nodup _ r i)
          have filW : ∀ w ∈ ((stepsR n ts rs wnow.1).take j).foldl (addW wnow.2) (reachW (stepsR n ts rs) r i), FilOk n w.1 := foldW_all (P := FilOk n) (fun s hs => by
            have hs := List.mem_of_mem_take hs
            unfold stepsR at hs
            obtain ⟨m, _, rfl⟩ := List.mem_map.mp hs
            exact stepR_ok _ m) (lot_fil ok i)
          have lW := Nat.le_trans (lot_len2 nodW filW) (pow12 n12)
          have lenW : ∀ w ∈ ((stepsR n ts rs wnow.1).take j).foldl (addW wnow.2) (reachW (stepsR n ts rs) r i), w.2.length ≤ i + 1 := foldW_len (reach_wlen _ r i wnow mnow) fun w hw => Nat.le_succ_of_le (reach_wlen _ r i w hw)
          have mW : wnow ∈ ((stepsR n ts rs wnow.1).take j).foldl (addW wnow.2) (reachW (stepsR n ts rs) r i) := by
            obtain ⟨M, e⟩ := foldW_pre wnow.2 ((stepsR n ts rs wnow.1).take j) (reachW (stepsR n ts rs) r i)
            rw [e]
            exact List.mem_append_left _ mnow
          have eT : ((stepsR n ts rs wnow.1).take (j + 1)).foldl (addW wnow.2) (reachW (stepsR n ts rs) r i) = addW wnow.2 (((stepsR n ts rs wnow.1).take j).foldl (addW wnow.2) (reachW (stepsR n ts rs) r i)) st := by
            rw [take_next est, List.foldl_append]
            rfl
          rw [eT]
          generalize ((stepsR n ts rs wnow.1).take j).foldl (addW wnow.2) (reachW (stepsR n ts rs) r i) = W at hk hv nodW filW lW lenW mW ⊢
          refine ⟨t, _, rfl, SqT.of ht, rfl, _, _, rfl, _, _, rfl, rfl, ?_⟩
          refine ⟨_, rfl, _, rfl, d, _, rfl, DGet.t ed hbb, _, rfl, ?_⟩
          by_cases cin : st.2 ∈ W.map (·.1)
          · refine iteF' (by rw [hk.some_iff nodW, decide_eq_true cin]; rfl) ?_
            have e1 : addW wnow.2 W st = W := if_pos cin
            rw [e1]
            exact ⟨kvs, vs, _, _, rfl, ed, hk, el, hv, sH, s34, els⟩
          · refine iteT' (by rw [hk.some_iff nodW, decide_eq_false cin]; rfl) ?_
            obtain ⟨pv_, epv, hpv⟩ := hk.at nodW mW
            obtain ⟨qa, qs, rfl, hqa, mvs⟩ := id hpv
            obtain ⟨bn, rfl, hbn⟩ := (s34.row (hnow.kp fun b xs => s4 b _)).key
            refine ⟨_, rfl, _, rfl, d, _, rfl, epv ▸ DGet.t ed hbn, _, rfl, (by show 1 ≤ sizeLine; decide), fun q5 nq5 => ?_⟩
            have sq5 := Same.new (o := .tup [m]) nq5
            have lqs : qs.length ≤ 4097 := by
              have h1 := Paired.length mvs
              have h2 := lenW wnow mW
              omega
            refine ⟨qa, q5, qs, [m], rfl, rfl, Same.seqT sq5 hqa, SqT.of upd_same, Nat.le_trans (by show qs.length + 1 ≤ 5000; omega) (by decide), fun u H5 hu5 s5 => ?_⟩
            have s45 := sq5.trans s5
            have ed5 := s45 _ _ ed
            have el5 := s45 _ _ el
            have lk : kvs.length ≤ 4096 := by rw [hk.len]; exact lW
            refine ⟨_, rfl, _, rfl, d, _, rfl, DPut.t ed5 (s45 _ _ hbb) (Nat.lt_of_le_of_lt lk (by decide)), ?_⟩
            have ed6 : (upd H5 d (.dT (putK kvs (keyR st.2) (.ref u)))) d = some (.dT (putK kvs (keyR st.2) (.ref u))) := upd_same
            have k6 : KpT H4 (upd H5 d (.dT (putK kvs (keyR st.2) (.ref u)))) := (KpT.of_same s45).trans (.dt ed5)
            have el6 : (upd H5 d (.dT (putK kvs (keyR st.2) (.ref u)))) l = some (.lst vs) := by rw [upd_ne (Ne.symm dl)]; exact el5
            have els6 : (upd H5 d (.dT (putK kvs (keyR st.2) (.ref u)))) ls = some (.lst ys) := by rw [upd_ne (Ne.symm dls)]; exact s45 _ _ els
            have sH6 := Same.upd_new (o := .dT (putK kvs (keyR st.2) (.ref u))) (sH.trans s45) nd
            have hu6 : SqT K (upd H5 d (.dT (putK kvs (keyR st.2) (.ref u)))) u (qs ++ [m]) := (KpT.dt ed5).seqT hu5
            have hm6 := k6.mv hm
            have mvs6 := par_map (fun y m h => k6.mv h) mvs
            have lv : vs.length = W.length := by rw [Paired.length hv, List.length_map]
            generalize upd H5 d (.dT (putK kvs (keyR st.2) (.ref u))) = H6 at ed6 k6 el6 els6 sH6 hu6 hm6 mvs6 ⊢
            refine ⟨_, rfl, .inl ⟨rfl, _, SqL.of el6⟩, _, rfl, l, vs, _, rfl, rfl, el6, Nat.lt_of_le_of_lt (by omega : vs.length ≤ 4096) (by decide), ?_⟩
            have e1 : addW wnow.2 W st = W ++ [(st.2, wnow.2 ++ [st.1])] := if_neg cin
            rw [e1, List.map_append]
            have k7 := KpT.lst (o := .lst (vs ++ [.ref bb])) el6
            have k47 := k6.trans k7
            refine ⟨_, _, _, _, rfl, by rw [upd_ne dl]; exact ed6, ?_, upd_same, ?_, Same.upd_new sH6 (Same.none s2 nl), s34.trans k47, by rw [upd_ne (Ne.symm lls)]; exact els6⟩
            · exact KVs.snoc (hk.mono fun v z h => h.kpT k47) cin ⟨u, _, rfl, k7.seqT hu6, par_snoc (par_map (fun y m h => k7.mv h) mvs6) (k7.mv hm6)⟩
            · exact par_snoc (par_map (fun v z h => k47.row h) hv) (k47.row hb')
        · rintro σ H4 ⟨kvs, vs, v7, v8, rfl, ed, hk, el, hv, sH, s34, els⟩
          rw [lys, List.take_length, ← eW] at hk hv
          refine ⟨_, rfl, _, _, rfl, rfl, ?_⟩
          refine ⟨⟨i + 1, kvs, vs, _, _, _, rfl, ?_, ed, hk, el, hv, sH⟩, ?_⟩
          · obtain ⟨M, e⟩ := reach_pre (stepsR n ts rs) r i
            rw [e, List.length_append]
            have : 0 < M.length ∨ i + 1 ≤ (reachW (stepsR n ts rs) r i).length := .inr (by omega)
            omega
          · show 5000 - ((i : Int) + 1).toNat < 5000 - ((i : Nat) : Int).toNat
            omega
      · refine iteF' (show decide ((i : Int) < (vs.length : Int)) = false from decide_eq_false (by omega)) ?_
        exact ⟨_, rfl, k d i H2 ⟨kvs, ed, hk⟩ (by omega) nd sH⟩
    · rintro σ H' Q1 Q2 f ⟨v, h, v', h', p, ys, e, hs, i, j, e1, e2, c, ec, q1⟩
      exact ⟨v, h, v', h', p, ys, e, hs, i, j, e1, e2, c, ec, f _ _ q1⟩
end
end Y
set_option Elab.async false
set_option linter.all false
set_option maxRecDepth 100000
set_option maxHeartbeats 2000000
namespace Y
open PySem L2
abbrev sLot : Stmt := top 30
/-! ### the lot: all rows found, ascending -/
def numV : V → Int
  | .int z => z
  | _ => 0
theorem numV_ints (r : List Int) : (r.map V.int).map numV = r := by
  rw [List.map_map]
  exact (List.map_congr_left fun _ _ => rfl).trans (List.map_id r)
/-- the row that stands at a value -/
def rowAt (H : Hp) : V → List Int
  | .ref b => match H b with
    | some (.tup xs) => xs.map numV
    | _ => []
  | _ => []
theorem RowV.at_ {H : Hp} {v : V} {r : List Int} (h : RowV H v r) : rowAt H v = r := by
  obtain ⟨b, rfl, e⟩ := h
  show (match H b with | some (.tup xs) => xs.map numV | _ => []) = r
  rw [e]
  exact numV_ints r
section
variable {n : Nat} {ts : List (Int × Int)} {rs : List (List Int)} {r : List Int}
/-- moves keep how many places are filled -/
theorem lot_size (yp : YP n ts rs) (ok : FilOk n r) (i : Nat) : ∀ w ∈ reachW (stepsR n ts rs) r i, FilOk n w.1 ∧ w.1.length = r.length := reach_all (P := fun x => FilOk n x ∧ x.length = r.length) ⟨ok, rfl⟩ (fun x hx s hs => by
  unfold stepsR at hs
  obtain ⟨m, hm, rfl⟩ := List.mem_map.mp hs
  exact ⟨stepR_ok x m, (stepR_len yp.tok yp.rok hx.1 hm).trans hx.2⟩) i
theorem lot_short (yp : YP n ts rs) (ok : FilOk n r) (i : Nat) : ∀ w ∈ reachW (stepsR n ts rs) r i, w.1 ≠ [] ∨ (reachW (stepsR n ts rs) r i).length < 2 := fun w hw => by
  by_cases h : r.length = 0
  · right
    have nd := reach_nodup (stepsR n ts rs) r i
    have all : ∀ x ∈ (reachW (stepsR n ts rs) r i).map (·.1), x ∈ [([] : List Int)] := fun x hx => by
      obtain ⟨u, hu, rfl⟩ := List.mem_map.mp hx
      have := (lot_size yp ok i u hu).2
      rw [h] at this
      rw [List.length_eq_zero_iff.mp this]
      exact List.mem_singleton.mpr rfl
    have := sub_len nd all
    rw [List.length_map] at this
    exact Nat.lt_of_le_of_lt this (by decide)
  · left
    intro e
    have := (lot_size yp ok i w hw).2
    rw [e] at this
    exact h this.symm
end
/-- L is the lot of r -/
structure LotOf (n : Nat) (ts : List (Int × Int)) (rs : List (List Int)) (r : List Int) (L : List (List Int)) : Prop where
  ex : ∃ k, L.Perm ((reachW (stepsR n ts rs) r k).map (·.1)) ∧ (reachW (stepsR n ts rs) r k).length ≤ k
  asc : L.Pairwise RowLe
theorem LotOf.nodup {n : Nat} {ts : List (Int × Int)} {rs : List (List Int)} {r : List Int} {L : List (List Int)} (h : LotOf n ts rs r L) : L.Nodup := by
  obtain ⟨k, p, _⟩ := h.ex
  exact p.nodup_iff.mpr (reach_nodup _ r k)
theorem LotOf.fil {n : Nat} {ts : List (Int × Int)} {rs : List (List Int)} {r : List Int} {L : List (List Int)} (h : LotOf n ts rs r L) (ok : FilOk n r) : ∀ x ∈ L, FilOk n x := fun x hx => by
  obtain ⟨k, p, _⟩ := h.ex
  obtain ⟨w, hw, rfl⟩ := List.mem_map.mp (p.mem_iff.mp hx)
  exact lot_fil ok k w hw
theorem LotOf.closed {n : Nat} {ts : List (Int × Int)} {rs : List (List Int)} {r : List Int} {L : List (List Int)} (h : LotOf n ts rs r L) : ∀ x ∈ L, ∀ s ∈ stepsR n ts rs x, s.2 ∈ L := fun x hx s hs => by
  obtain ⟨k, p, hk⟩ := h.ex
  obtain ⟨w, hw, rfl⟩ := List.mem_map.mp (p.mem_iff.mp hx)
  exact p.mem_iff.mpr (reach_closed hk w hw s hs)
theorem LotOf.start {n : Nat} {ts : List (Int × Int)} {rs : List (List Int)} {r : List Int} {L : List (List Int)} (h : LotOf n ts rs r L) : r ∈ L := by
  obtain ⟨k, p, hk⟩ := h.ex
  refine p.mem_iff.mpr ?_
  obtain ⟨M, e⟩ := reach_pre' (stepsR n ts rs) r 0 k
  rw [Nat.zero_add] at e
  rw [e, List.map_append]
  exact List.mem_append_left _ List.mem_cons_self
theorem LotOf.len {n : Nat} {ts : List (Int × Int)} {rs : List (List Int)} {r : List Int} {L : List (List Int)} (h : LotOf n ts rs r L) (ok : FilOk n r) : L.length ≤ 2 ^ n := fils_len h.nodup (h.fil ok)
def spLot (K : PySem.W.Frag) : Sp := fun vs H Q _ => ∃ (x : Addr) (y : V) (n : Nat) (ts : List (Int × Int)) (rs : List (List Int)) (r : List Int), vs = [.ref x, y] ∧ YObj K H x n ts rs ∧ YP n ts rs ∧ n ≤ 12 ∧ RowV H y r ∧ FilOk n r ∧
  ∀ t ys L H', H' t = some (.tup ys) → Paired (RowV H') ys L → LotOf n ts rs r L → Same H H' → Q (.ref t) H'
theorem rows_of {H : Hp} {kvs : List (List Key × V)} {bs : List Addr} (h : IsKeys H kvs bs) : ∀ {F : V → List Mv → Prop} {W : List Way}, KVs F kvs W → (bs.map V.ref).map (rowAt H) = W.map (·.1) ∧ ∀ b ∈ bs, ∃ r, RowV H (.ref b) r := by
  unfold IsKeys at h
  induction h with
  | nil => intro F W hk; cases hk; exact ⟨rfl, fun b hb => by cases hb⟩
  | cons a _ ih =>
    intro F W hk
    cases hk with
    | cons p q =>
      obtain ⟨h1, h2⟩ := ih q
      have row : RowV H (.ref _) _ := ⟨_, rfl, by rw [p.1, keyR_kV] at a; exact a⟩
      refine ⟨by rw [List.map_cons, List.map_cons, List.map_cons, h1, row.at_], fun b hb => ?_⟩
      rcases List.mem_cons.mp hb with rfl | hb
      · exact ⟨_, row⟩
      · exact h2 b hb
section
variable {P : Program} {w : World} {K : PySem.W.Frag} {mg : Str → Option Value} {base : Heap} {fChk fWays : Addr}
theorem scLot : FnScope ["yard", "row"] ["yard", "row"] (defScope sLot) := ⟨rfl, rfl, rfl, by decide +kernel, rfl, by decide +kernel, by decide +kernel⟩
theorem ok_lot {f : Addr} {fd fdC fdW : FuncData} (F : Fun K "lot_of" "lot_of" sLot f fd) (gT : mg "tuple" = none) (gS : mg "sorted" = none) (gC : mg "check_row" = some (.ref fChk)) (gW : mg "ways_from" = some (.ref fWays))
    (GC : FnOk P w K mg base CX0 5 fChk fdC ["yard", "row"] (spChk K)) (FC : Fun K "check_row" "check_row" sChk fChk fdC) (bC : Binds K fdC ["yard", "row"] [])
    (GW : FnOk P w K mg base CX0 7 fWays fdW ["yard", "row"] (spWays K)) (FW : Fun K "ways_from" "ways_from" sWays fWays fdW) (bW : Binds K fdW ["yard", "row"] []) :
    FnOk P w K mg base CX0 8 f fd ["yard", "row"] (spLot K) := by
  refine F.ok scLot (fun vs H Q E h => ?_) (fun cdv A outer s H vs Q E hr h => ?_)
  · obtain ⟨x, y, n, ts, rs, r, rfl, _⟩ := h
    rfl
  · obtain ⟨x, y, n, ts, rs, r, rfl, hy, yp, n12, hrow, ok, k⟩ := h
    have hr5 : Room 5 _ := hr.mono (by decide)
    refine ⟨_, pss_cons (ps_expr (pe_call GC hr5 (by rfl) gC FC.kp bC .nil pass0 (pa_cons (pv 0) (pa_cons (pv 1) pa_nil))))
      (pss_one (ps_ret (pe_callTy call_tuple_of (by rfl) gT (by decide +kernel) (pa_cons (pe_callB (cr_sortedDR rfl) (by rfl) gS (by decide +kernel) (pa_cons
        (pe_call GW hr (by rfl) gW FW.kp bW .nil pass0 (pa_cons (pv 0) (pa_cons (pv 1) pa_nil))) pa_nil)) pa_nil)))), ?_⟩
    refine ⟨_, rfl, _, rfl, x, y, n, ts, rs, r, rfl, hy, hrow.row, ok, yp.n60, fun H1 s1 => ?_⟩
    refine ⟨_, rfl, _, rfl, x, y, n, ts, rs, r, rfl, hy.kp (.of_same s1), yp, n12, hrow.kp fun b xs => s1 b _, ok, fun d i H2 hw hi nd s2 => ?_⟩
    obtain ⟨kvs, ed, hk⟩ := hw
    have lk := hk.len
    have l4 : (reachW (stepsR n ts rs) r i).length ≤ 4096 := Nat.le_trans (lot_len ok i) (pow12 n12)
    refine ⟨d, kvs, rfl, .inl ed, by omega, fun kv hkv => ?_, fun bs ys p hb hp hs np => ?_⟩
    · obtain ⟨j, hj⟩ := List.mem_iff_getElem?.mp hkv
      obtain ⟨w, ew, h1, _⟩ := par_get hk hj
      refine ⟨w.1, h1, ?_⟩
      rw [lk]
      exact lot_short yp ok i w (List.mem_of_getElem? ew)
    · obtain ⟨h1, h2⟩ := rows_of hb hk
      have sp := Same.new (o := .lst ys) np
      have sA := (s1.trans s2).trans sp
      have ly : ys.length = (reachW (stepsR n ts rs) r i).length := by
        rw [hp.length_eq, ← List.length_map (f := rowAt H2), h1, List.length_map]
      have rowY : ∀ v ∈ ys, RowV H2 v (rowAt H2 v) := fun v hv => by
        obtain ⟨b, hb, rfl⟩ := List.mem_map.mp (hp.mem_iff.mp hv)
        obtain ⟨r', hr'⟩ := h2 b hb
        rw [hr'.at_]
        exact hr'
      refine ⟨p, ys, rfl, .inl ⟨SqL.of upd_same, fun t nt => ?_⟩⟩
      have st := Same.new (o := .tup ys) nt
      refine k t ys (ys.map (rowAt H2)) _ upd_same ?_ ⟨⟨i, ?_, hi⟩, ?_⟩ (sA.trans st)
      · have : ∀ l : List V, (∀ v ∈ l, RowV H2 v (rowAt H2 v)) → Paired (RowV (upd (upd H2 p (.lst ys)) t (.tup ys))) l (l.map (rowAt H2)) := by
          intro l
          induction l with
          | nil => intro _; exact .nil
          | cons a l ih =>
            intro h
            exact .cons ((h a List.mem_cons_self).kp fun b xs e => st _ _ (sp _ _ e)) (ih fun v hv => h v (List.mem_cons_of_mem _ hv))
        exact this ys rowY
      · rw [← h1]
        exact hp.map _
      · rw [List.pairwise_map]
        refine List.Pairwise.imp_of_mem (fun {u v} hu hv h => ?_) hs
        obtain ⟨b, eb, hb'⟩ := rowY u hu
        obtain ⟨b2, eb2, hb2⟩ := rowY v hv
        exact h _ _ ⟨b, eb, SqT.of hb'⟩ ⟨b2, eb2, SqT.of hb2⟩
end
end Y
set_option Elab.async false
set_option linter.all false
set_option maxRecDepth 100000
set_option maxHeartbeats 2000000
namespace Y
open PySem L2
abbrev sDeep : Stmt := top 34
abbrev NDeep : List Str := ["ahead", "order", "seen", "start", "waiting", "row", "is_done", "then"]
/-! ### which rows lie ahead of which -/
abbrev Ahead := List (List Int × List (List Int))
/-- a list of rows -/
def RowsL (H : Hp) (v : V) (zs : List (List Int)) : Prop := ∃ l vs, v = .ref l ∧ H l = some (.lst vs) ∧ Paired (RowV H) vs zs
theorem RowsL.kp {H H' : Hp} {v : V} {zs : List (List Int)} (h : RowsL H v zs) (s : ∀ b o, H b = some o → (∀ kvs, o ≠ .dT kvs) → H' b = some o) : RowsL H' v zs := by
  obtain ⟨l, vs, e, h1, h2⟩ := h
  exact ⟨l, vs, e, s _ _ h1 (fun _ z => by cases z), par_map (fun _ _ h => h.kp fun b xs e => s _ _ e fun _ z => by cases z) h2⟩
structure AhOk (A : Ahead) : Prop where
  nd : (A.map (·.1)).Nodup
  closed : ∀ p ∈ A, ∀ z ∈ p.2, z ∈ A.map (·.1)
  len : A.length ≤ 60
  deg : ∀ p ∈ A, p.2.length ≤ 200
/-- waiting: (row, is it done) -/
def WaitV (H : Hp) (v : V) (p : List Int × Bool) : Prop := ∃ t b, v = .ref t ∧ H t = some (.tup [b, .bl p.2]) ∧ RowV H b p.1
def TK (H H' : Hp) : Prop := ∀ b xs, H b = some (.tup xs) → H' b = some (.tup xs)
theorem TK.trans {H H' H2 : Hp} (a : TK H H') (b : TK H' H2) : TK H H2 := fun c xs e => b c xs (a c xs e)
theorem TK.of_same {H H' : Hp} (s : Same H H') : TK H H' := fun b xs e => s _ _ e
theorem TK.upd {H : Hp} {a : Addr} {o u : HO} (e : H a = some u) (n : ∀ xs, u ≠ .tup xs) : TK H (upd H a o) := fun b xs h => by rw [upd_ne (ne_of h e fun z => n xs z.symm)]; exact h
theorem WaitV.tk {H H' : Hp} {v : V} {p : List Int × Bool} (h : WaitV H v p) (s : TK H H') : WaitV H' v p := by
  obtain ⟨t, b, e, h1, h2⟩ := h
  exact ⟨t, b, e, s _ _ h1, h2.kp s⟩
/-- all but what lies at d stands -/
def But1 (d : Addr) (H H' : Hp) : Prop := ∀ b o, b ≠ d → H b = some o → H' b = some o
theorem But1.trans {d : Addr} {H H1 H2 : Hp} (a : But1 d H H1) (b : But1 d H1 H2) : But1 d H H2 := fun c o n e => b c o n (a c o n e)
theorem But1.same {d : Addr} {H H1 H2 : Hp} (a : But1 d H H1) (b : Same H1 H2) : But1 d H H2 := fun c o n e => b _ _ (a c o n e)
theorem But1.new {d c : Addr} {H H' : Hp} {o : HO} (a : But1 d H H') (n : H c = none) : But1 d H (upd H' c o) := fun b u nb e => by rw [upd_ne (ne_of_none e n)]; exact a b u nb e
/-- the order and what waits, told by lists -/
structure DeepI (A : Ahead) (O S : List (List Int)) (W : List (List Int × Bool)) : Prop where
  nd : S.Nodup
  sub : ∀ r ∈ S, r ∈ A.map (·.1)
  wsub : ∀ p ∈ W, p.1 ∈ A.map (·.1)
  osub : ∀ r ∈ O, r ∈ A.map (·.1)
  out : ∀ r ∈ S, r ∈ O ∨ (r, true) ∈ W
  cnt : O.length + (W.filter (·.2)).length = S.length
  wl : W.length ≤ 1 + 201 * S.length
theorem DeepI.slen {A : Ahead} {O S : List (List Int)} {W : List (List Int × Bool)} (h : DeepI A O S W) (ok : AhOk A) : S.length ≤ 60 := by
  have := sub_len h.nd h.sub
  rw [List.length_map] at this
  exact Nat.le_trans this ok.len
theorem DeepI.pop_done {A : Ahead} {O S : List (List Int)} {W : List (List Int × Bool)} {r : List Int} (h : DeepI A O S (W ++ [(r, true)])) : DeepI A (O ++ [r]) S W := by
  refine ⟨h.nd, h.sub, fun p hp => h.wsub p (List.mem_append_left _ hp), fun x hx => ?_, fun x hx => ?_, ?_, ?_⟩
  · rcases List.mem_append.mp hx with hx | hx
    · exact h.osub x hx
    · rw [List.mem_singleton.mp hx]
      exact h.wsub (r, true) (List.mem_append_right _ (List.mem_singleton.mpr rfl))
  · rcases h.out x hx with c | c
    · exact .inl (List.mem_append_left _ c)
    · rcases List.mem_append.mp c with c | c
      · exact .inr c
      · injection List.mem_singleton.mp c with c
        exact .inl (List.mem_append_right _ (List.mem_singleton.mpr c))
  · have := h.cnt
    simp only [List.filter_append, List.length_append, List.filter_cons_of_pos, List.filter_nil, List.length_cons, List.length_nil] at this ⊢
    omega
  · have := h.wl
    simp only [List.length_append, List.length_cons, List.length_nil] at this
    omega
theorem DeepI.pop_seen {A : Ahead} {O S : List (List Int)} {W : List (List Int × Bool)} {r : List Int} (h : DeepI A O S (W ++ [(r, false)])) : DeepI A O S W := by
  refine ⟨h.nd, h.sub, fun p hp => h.wsub p (List.mem_append_left _ hp), h.osub, fun x hx => ?_, ?_, ?_⟩
  · rcases h.out x hx with c | c
    · exact .inl c
    · rcases List.mem_append.mp c with c | c
      · exact .inr c
      · injection List.mem_singleton.mp c with _ c
        cases c
  · have := h.cnt
    rw [List.filter_append, List.length_append] at this
    simpa using this
  · have := h.wl
    simp only [List.length_append, List.length_cons, List.length_nil] at this
    omega
theorem filter_none {zs : List (List Int)} : ((zs.map fun z => (z, false)).filter (·.2)).length = 0 := by
  rw [List.length_eq_zero_iff, List.filter_eq_nil_iff]
  intro p hp
  obtain ⟨z, _, rfl⟩ := List.mem_map.mp hp
  exact Bool.false_ne_true
theorem DeepI.pop_new {A : Ahead} {O S S' : List (List Int)} {W : List (List Int × Bool)} {r : List Int} {zs : List (List Int)} (h : DeepI A O S (W ++ [(r, false)])) (ok : AhOk A) (hn : r ∉ S) (pS : S'.Perm (r :: S)) (hA : (r, zs) ∈ A) :
    DeepI A O S' (W ++ [(r, true)] ++ zs.map fun z => (z, false)) := by
  have hr : r ∈ A.map (·.1) := List.mem_map.mpr ⟨_, hA, rfl⟩
  have dg := ok.deg _ hA
  refine ⟨pS.nodup_iff.mpr (List.nodup_cons.mpr ⟨hn, h.nd⟩), fun x hx => ?_, fun p hp => ?_, h.osub, fun x hx => ?_, ?_, ?_⟩
  · rcases List.mem_cons.mp (pS.mem_iff.mp hx) with rfl | hx
    · exact hr
    · exact h.sub x hx
  · rcases List.mem_append.mp hp with hp | hp
    · rcases List.mem_append.mp hp with hp | hp
      · exact h.wsub p (List.mem_append_left _ hp)
      · rw [List.mem_singleton.mp hp]; exact hr
    · obtain ⟨z, hz, rfl⟩ := List.mem_map.mp hp
      exact ok.closed _ hA z hz
  · rcases List.mem_cons.mp (pS.mem_iff.mp hx) with rfl | hx
    · exact .inr (List.mem_append_left _ (List.mem_append_right _ (List.mem_singleton.mpr rfl)))
    · rcases h.out x hx with c | c
      · exact .inl c
      · rcases List.mem_append.mp c with c | c
        · exact .inr (List.mem_append_left _ (List.mem_append_left _ c))
        · injection List.mem_singleton.mp c with _ c
          cases c
  · have := h.cnt
    have e1 : ([(r, false)].filter (·.2)).length = 0 := rfl
    have e2 : ([(r, true)].filter (·.2)).length = 1 := rfl
    rw [List.filter_append, List.length_append, e1] at this
    rw [pS.length_eq, List.filter_append, List.filter_append, List.length_append, List.length_append, filter_none, e2, List.length_cons]
    omega
  · have := h.wl
    have e3 := pS.length_eq
    have dg : zs.length ≤ 200 := dg
    simp only [List.length_append, List.length_map, List.length_cons, List.length_nil] at this e3 ⊢
    omega
theorem gset_go {i : Nat} {v : V} {σ σ' : L2.St} {H : Hp} {Q : L2.St → Hp → Prop} (h : σ.set i (some v) = σ') (k : Q σ' H) : gName i v σ H Q := by
  subst h
  exact k
theorem sq_st {t : TS} {D : Ends} {σ σ' : L2.St} {H : Hp} (h : σ = σ') (k : t D σ' H) : t D σ H := by
  subst h
  exact k
theorem while_m {c : TT} {tb : TS} {D : Ends} {σ : L2.St} {H : Hp} (Pv : Nat → L2.St → Hp → Prop) (h0 : ∃ m, Pv m σ H)
    (hs : ∀ m σ H, Pv m σ H → c σ H fun b H1 => if b = true then tb { D with nx := fun σ' H' => ∃ m', m' < m ∧ Pv m' σ' H', ct := fun σ' H' => ∃ m', m' < m ∧ Pv m' σ' H', bk := D.nx } σ H1 else D.nx σ H1)
    (mono : ∀ σ H Q Q', (∀ b H1, Q b H1 → Q' b H1) → c σ H Q → c σ H Q') : tWhile c tb D σ H := by
  refine ⟨Pv, h0, fun m σ H p => mono σ H _ _ (fun b H1 q => ?_) (hs m σ H p)⟩
  cases b with
  | true => exact ⟨_, fun σ' H' h => h, q⟩
  | false => exact q
theorem par_last {α β : Type} {R : α → β → Prop} {ys : List α} {rs : List β} (h : Paired R ys rs) : ys ≠ [] → ∃ ys0 y rs0 r, ys = ys0 ++ [y] ∧ rs = rs0 ++ [r] ∧ Paired R ys0 rs0 ∧ R y r := by
  induction h with
  | nil => exact fun n => absurd rfl n
  | cons a t ih =>
    intro n0; clear n0
    rename_i l1 lk
    by_cases n : l1 = []
    · subst n
      cases t
      exact ⟨[], _, [], _, rfl, rfl, .nil, a⟩
    · obtain ⟨ys0, y, rs0, r, e1, e2, p, h⟩ := ih n
      exact ⟨_ :: ys0, y, _ :: rs0, r, by rw [e1]; rfl, by rw [e2]; rfl, .cons a p, h⟩
/-- what lies in the heap while rows are ordered -/
structure DeepH (P : Program) (w : World) (H0 H : Hp) (d lo ls lw : Addr) (od : Obj) (kvs : List (List Key × V)) (O : List (List Int)) (L : List (Addr × List Int)) (W : List (List Int × Bool)) : Prop where
  eo : ∃ os, H lo = some (.lst os) ∧ Paired (RowV H) os O
  es : H ls = some (SetTO P w ls L)
  el : ∀ p ∈ L, H p.1 = some (.tup (p.2.map V.int))
  ew : ∃ ws, H lw = some (.lst ws) ∧ Paired (WaitV H) ws W
  ed : H d = some (.frz od (.dT kvs))
  b1 : But1 d H0 H
section
variable {P : Program} {w : World} {H0 H H' : Hp} {d lo ls lw : Addr} {od : Obj} {kvs : List (List Key × V)} {O : List (List Int)} {L : List (Addr × List Int)} {W : List (List Int × Bool)}
theorem setT_ne {xs : List V} : SetTO P w ls L ≠ .lst xs := fun z => by unfold SetTO at z; cases z
theorem setT_tup {xs : List V} : SetTO P w ls L ≠ .tup xs := fun z => by unfold SetTO at z; cases z
theorem setT_frz {o : Obj} {u : HO} : SetTO P w ls L ≠ .frz o u := fun z => by unfold SetTO at z; cases z
theorem DeepH.same (h : DeepH P w H0 H d lo ls lw od kvs O L W) (s : Same H H') : DeepH P w H0 H' d lo ls lw od kvs O L W := by
  obtain ⟨⟨os, e1, p1⟩, e2, e3, ⟨ws, e4, p4⟩, e5, e6⟩ := h
  exact ⟨⟨os, s _ _ e1, par_map (fun _ _ h => h.kp (TK.of_same s)) p1⟩, s _ _ e2, fun p hp => s _ _ (e3 p hp), ⟨ws, s _ _ e4, par_map (fun _ _ h => h.tk (TK.of_same s)) p4⟩, s _ _ e5, e6.same s⟩
/-- the list of what waits is another one -/
theorem DeepH.setW (h : DeepH P w H0 H d lo ls lw od kvs O L W) (n : H0 lw = none) (nl : lo ≠ lw) {ws' : List V} {W' : List (List Int × Bool)} (hw : Paired (WaitV H) ws' W') : DeepH P w H0 (upd H lw (.lst ws')) d lo ls lw od kvs O L W' := by
  obtain ⟨⟨os, e1, p1⟩, e2, e3, ⟨ws, e4, p4⟩, e5, e6⟩ := h
  have tk : TK H (upd H lw (.lst ws')) := .upd e4 fun xs z => by cases z
  exact ⟨⟨os, by rw [upd_ne nl]; exact e1, par_map (fun _ _ h => h.kp tk) p1⟩, by rw [upd_ne (ne_of e2 e4 setT_ne)]; exact e2, fun p hp => tk _ _ (e3 p hp), ⟨ws', upd_same, par_map (fun _ _ h => h.tk tk) hw⟩, by rw [upd_ne (ne_of e5 e4 fun z => by cases z)]; exact e5, e6.new n⟩
theorem DeepH.setO (h : DeepH P w H0 H d lo ls lw od kvs O L W) (n : H0 lo = none) (nl : lo ≠ lw) {os' : List V} {O' : List (List Int)} (ho : Paired (RowV H) os' O') : DeepH P w H0 (upd H lo (.lst os')) d lo ls lw od kvs O' L W := by
  obtain ⟨⟨os, e1, p1⟩, e2, e3, ⟨ws, e4, p4⟩, e5, e6⟩ := h
  have tk : TK H (upd H lo (.lst os')) := .upd e1 fun xs z => by cases z
  exact ⟨⟨os', upd_same, par_map (fun _ _ h => h.kp tk) ho⟩, by rw [upd_ne (ne_of e2 e1 setT_ne)]; exact e2, fun p hp => tk _ _ (e3 p hp), ⟨ws, by rw [upd_ne (Ne.symm nl)]; exact e4, par_map (fun _ _ h => h.tk tk) p4⟩, by rw [upd_ne (ne_of e5 e1 fun z => by cases z)]; exact e5, e6.new n⟩
theorem DeepH.setS (h : DeepH P w H0 H d lo ls lw od kvs O L W) (n : H0 ls = none) {L' : List (Addr × List Int)} (hl : ∀ p ∈ L', H p.1 = some (.tup (p.2.map V.int))) : DeepH P w H0 (upd H ls (SetTO P w ls L')) d lo ls lw od kvs O L' W := by
  obtain ⟨⟨os, e1, p1⟩, e2, e3, ⟨ws, e4, p4⟩, e5, e6⟩ := h
  have tk : TK H (upd H ls (SetTO P w ls L')) := .upd e2 fun xs => setT_tup
  exact ⟨⟨os, by rw [upd_ne (Ne.symm (ne_of e2 e1 setT_ne))]; exact e1, par_map (fun _ _ h => h.kp tk) p1⟩, upd_same, fun p hp => tk _ _ (hl p hp), ⟨ws, by rw [upd_ne (Ne.symm (ne_of e2 e4 setT_ne))]; exact e4, par_map (fun _ _ h => h.tk tk) p4⟩, by rw [upd_ne (Ne.symm (ne_of e2 e5 setT_frz))]; exact e5, e6.new n⟩
end
def spDeep (K : PySem.W.Frag) : Sp := fun vs H Q _ => ∃ (d : Addr) (kvs : List (List Key × V)) (A : Ahead), vs = [.ref d] ∧ H d = some (.dT kvs) ∧ KVs (RowsL H) kvs A ∧ AhOk A ∧
  ∀ l os O H', H l = none → H' l = some (.lst os) → Paired (RowV H') os O → (∀ r ∈ A.map (·.1), r ∈ O) → (∀ r ∈ O, r ∈ A.map (·.1)) → O.length ≤ 60 → Same H H' → Q (.ref l) H'
section
variable {P : Program} {w : World} {K : PySem.W.Frag} {mg : Str → Option Value} {base : Heap}
theorem scDeep : FnScope NDeep ["ahead"] (defScope sDeep) := ⟨rfl, rfl, rfl, by decide +kernel, rfl, by decide +kernel, by decide +kernel⟩
theorem ok_deep {f : Addr} {fd : FuncData} (F : Fun K "deep_order" "deep_order" sDeep f fd) (gS : mg "set" = none) : FnOk P w K mg base CX0 1 f fd ["ahead"] (spDeep K) := by
  refine F.ok scDeep (fun vs H Q E h => ?_) (fun cdv A outer s H vs Q E hr h => ?_)
  · obtain ⟨d, kvs, A, rfl, _⟩ := h
    rfl
  · obtain ⟨d, kvs, Ah, rfl, hd, hk, ok, k⟩ := h
    have hu := hu_of hr
    have hu64 := hr.units
    refine ⟨_, pss_cons (ps_set (i := 1) scDeep.nd rfl (Or.inl rfl) (pe_lst pa_nil))
      (pss_cons (ps_set (i := 2) scDeep.nd rfl (Or.inl rfl) (pe_callTy0 cr_set0T (by rfl) gS (by decide +kernel)))
      (pss_cons (ps_lock (ps_for PassesOwn.never rfl (pi_keys (pv 0)) (pg_name (i := 3) scDeep.nd rfl (Or.inl rfl))
        (pss_cons (ps_set (i := 4) scDeep.nd rfl (Or.inl rfl) (pe_lst (pa_cons (pe_tup (pa_cons (pv 3) (pa_cons pe_bl pa_nil))) pa_nil)))
        (pss_one (ps_while PassesOwn.never (pt_truth (pv 4) (fun _ => rfl))
          (pss_cons (ps_asg (pe_bm0 PySem.F.plainAttrs_list PySem.F.slot_list_pop PySem.F.type_list_pop mt_pop (pv 4)) (pg_tup rfl (pgs_cons (pg_name (i := 5) scDeep.nd rfl (Or.inl rfl)) (pgs_cons (pg_name (i := 6) scDeep.nd rfl (Or.inl rfl)) pgs_nil))))
          (pss_one (ps_if (pt_val (pv 6))
            (pss_one (ps_expr (pe_bm PySem.F.plainAttrs_list PySem.F.slot_list_append PySem.F.type_list_append mt_append (pv 1) (pa_cons (pv 5) pa_nil))))
            (pss_one (ps_if (pt_cmpR (op_notInSetT hu64) (pv 5) (pv 2) (by rfl))
              (pss_cons (ps_expr (pe_saddT hu64 (pv 2) (pa_cons (pv 5) pa_nil)))
              (pss_cons (ps_expr (pe_bm PySem.F.plainAttrs_list PySem.F.slot_list_append PySem.F.type_list_append mt_append (pv 4) (pa_cons (pe_tup (pa_cons (pv 5) (pa_cons pe_bl pa_nil))) pa_nil)))
              (pss_one (ps_expr (pe_bm PySem.F.plainAttrs_list PySem.F.slot_list_extend PySem.F.type_list_extend mt_extend (pv 4) (pa_cons
                (pe_lc (own := [("then", 7)]) (g := gName 7) (tt := tYes) rfl scDeep.nd (pi_list (pe_dget hu (pv 0) (pv 5) (fun _ _ => rfl))) (blkOk_by (N := NDeep) (sc := defScope sDeep) (by decide +kernel))
                  (fun _ _ _ _ _ => pg_name (i := 7) scDeep.nd rfl (Or.inl rfl)) (fun _ _ _ _ _ => pts_nil) (fun _ _ _ _ _ => pe_tup (pa_cons (pv 7) (pa_cons pe_bl pa_nil)))) pa_nil))))))
              pss_nil))))))))))
      (pss_one (ps_ret (pv 1))))), ?_⟩
    refine ⟨(by show 0 ≤ sizeLine; decide), fun lo nlo => ?_⟩
    have so := Same.new (o := .lst ([] : List V)) nlo
    have eo0 : (upd H lo (.lst ([] : List V))) lo = some (.lst []) := upd_same
    generalize upd H lo (.lst ([] : List V)) = H1 at so eo0 ⊢
    refine ⟨rfl, fun ls nls => ?_⟩
    have s2 := Same.new (o := SetTO P w ls []) nls
    have es0 : (upd H1 ls (SetTO P w ls [])) ls = some (SetTO P w ls []) := upd_same
    have eo1 := s2 _ _ eo0
    have nls0 : H ls = none := Same.none so nls
    have s02 := so.trans s2
    show tSeq _ _ _ _ (upd H1 ls (SetTO P w ls []))
    generalize upd H1 ls (SetTO P w ls []) = H2 at s2 es0 eo1 s02 ⊢
    have hd2 := s02 _ _ hd
    refine ⟨d, .dT kvs, hd2, trivial, fun od => ?_⟩
    refine ⟨_, rfl, d, od, rfl, .inr ⟨kvs, upd_same, ?_⟩⟩
    have dlo : d ≠ lo := ne_of_none hd nlo
    have dls : d ≠ ls := ne_of_none hd nls0
    have b0 : But1 d H (upd H2 d (.frz od (.dT kvs))) := fun b o n e => by rw [upd_ne n]; exact s02 _ _ e
    refine for_it walk_keysT (fun i σ H' => ∃ (v3 v4 v5 v6 v7 : Option V) (O : List (List Int)) (L : List (Addr × List Int)), σ = [some (.ref d), some (.ref lo), some (.ref ls), v3, v4, v5, v6, v7] ∧ (∃ os, H' lo = some (.lst os) ∧ Paired (RowV H') os O) ∧ H' ls = some (SetTO P w ls L) ∧
        (∀ p ∈ L, H' p.1 = some (.tup (p.2.map V.int))) ∧ DeepI Ah O (L.map (·.2)) [] ∧ (∀ r ∈ (Ah.map (·.1)).take i, r ∈ L.map (·.2)) ∧ H' d = some (.frz od (.dT kvs)) ∧ But1 d H H')
      ⟨none, none, none, none, none, [], [], rfl, ⟨[], by rw [upd_ne (Ne.symm dlo)]; exact eo1, .nil⟩, by rw [upd_ne (Ne.symm dls)]; exact es0, (fun p hp => by cases hp), ⟨List.nodup_nil, (fun r hr => by cases hr), (fun r hr => by cases hr), (fun r hr => by cases hr), (fun r hr => by cases hr), rfl, Nat.zero_le _⟩, (fun r hr => by cases hr), upd_same, b0⟩
      (fun i σ H' _ ⟨_, _, _, _, _, _, _, _, _, _, _, _, _, e, _⟩ => e) ?_ ?_
    · rintro i y σ H3 H3' hi ⟨v3, v4, v5, v6, v7, O, L, rfl, ⟨os, eo, po⟩, es, el, dI, tk, ed, b1⟩ ⟨rfl, key, val, q, hkv, rfl, eq⟩
      obtain ⟨pr, epr, hkey, hval⟩ := par_get hk hkv
      obtain rfl : key = keyR pr.1 := hkey
      have eq : H3' q = some (.tup (pr.1.map V.int)) := by rw [eq, keyR_kV]
      have mpr : pr ∈ Ah := List.mem_of_getElem? epr
      refine ⟨_, rfl, (by show 2 ≤ sizeLine; decide), fun t nt => ⟨(by show 1 ≤ sizeLine; decide), fun lw nlw => ?_⟩⟩
      have st := Same.new (o := .tup [.ref q, .bl false]) nt
      have sw := Same.new (o := .lst [V.ref t]) nlw
      have nlw3 : H3' lw = none := Same.none st nlw
      have ndlw : d ≠ lw := ne_of_none ed nlw3
      have nlw0 : H lw = none := by
        cases e : H lw with
        | none => rfl
        | some o => rw [b1 lw o (Ne.symm ndlw) e] at nlw3; cases nlw3
      have nolw : lo ≠ lw := ne_of_none eo nlw3
      have hst : DeepH P w H (upd (upd H3' t (.tup [.ref q, .bl false])) lw (.lst [V.ref t])) d lo ls lw od kvs O L [(pr.1, false)] := by
        have sA := st.trans sw
        exact ⟨⟨os, sA _ _ eo, par_map (fun _ _ h => h.kp (TK.of_same sA)) po⟩, sA _ _ es, fun p hp => sA _ _ (el p hp), ⟨_, upd_same, .cons ⟨t, .ref q, rfl, sw _ _ upd_same, q, rfl, sA _ _ eq⟩ .nil⟩, sA _ _ ed, b1.same sA⟩
      have dI2 : DeepI Ah O (L.map (·.2)) [(pr.1, false)] := ⟨dI.nd, dI.sub, (fun p hp => by rw [List.mem_singleton.mp hp]; exact List.mem_map.mpr ⟨pr, mpr, rfl⟩), dI.osub, (fun r hr => (dI.out r hr).imp id fun z => (by cases z)), dI.cnt, (by show 1 ≤ _; omega)⟩
      generalize upd (upd H3' t (.tup [.ref q, .bl false])) lw (.lst [V.ref t]) = H4 at hst ⊢
      refine gset_go (σ' := [some (.ref d), some (.ref lo), some (.ref ls), some (.ref q), some (.ref lw), v5, v6, v7]) rfl ?_
      dsimp only
      refine while_m (fun m σ H' => ∃ (v5 v6 : Option V) (O : List (List Int)) (L : List (Addr × List Int)) (W : List (List Int × Bool)), σ = [some (.ref d), some (.ref lo), some (.ref ls), some (.ref q), some (.ref lw), v5, v6, v7] ∧ DeepH P w H H' d lo ls lw od kvs O L W ∧ DeepI Ah O (L.map (·.2)) W ∧
          (pr.1 ∈ L.map (·.2) ∨ (pr.1, false) ∈ W) ∧ (∀ r ∈ (Ah.map (·.1)).take i, r ∈ L.map (·.2)) ∧ m = W.length + 300 * (61 - L.length)) ⟨_, v5, v6, O, L, _, rfl, hst, dI2, .inr (List.mem_singleton.mpr rfl), tk, rfl⟩ ?_ ?_
      · rintro m σ H5 ⟨v5, v6, O, L, W, rfl, hS, dI, hin, tk, rfl⟩
        obtain ⟨ws, ew, pw⟩ := hS.ew
        refine ⟨_, rfl, !ws.isEmpty, .inl ⟨ws, SqL.of ew, rfl⟩, ?_⟩
        by_cases hws : ws = []
        · subst hws
          cases pw
          refine iteF' rfl ?_
          refine ⟨_, _, _, _, _, O, L, rfl, hS.eo, hS.es, hS.el, dI, fun r hr => ?_, hS.ed, hS.b1⟩
          rw [take_next (by rw [List.getElem?_map, epr]; rfl)] at hr
          rcases List.mem_append.mp hr with hr | hr
          · exact tk r hr
          · rw [List.mem_singleton.mp hr]
            exact hin.elim id (fun z => (by cases z))
        · refine iteT' (by cases ws with | nil => exact absurd rfl hws | cons _ _ => rfl) ?_
          obtain ⟨ws0, v0, W0, p0, rfl, rfl, pw0, t0, b, rfl, ht0, hb⟩ := par_last pw hws
          obtain ⟨r0, dn⟩ := p0
          refine ⟨_, rfl, .inl ⟨rfl, _, SqL.of ew⟩, lw, ws0 ++ [.ref t0], .ref t0, rfl, rfl, ew, by simp, ?_⟩
          rw [List.dropLast_concat]
          have tk6 : TK H5 (upd H5 lw (.lst ws0)) := .upd ew fun xs z => by cases z
          have hS6 := hS.setW nlw0 nolw pw0
          have ht6 := tk6 _ _ ht0
          have hb6 : RowV (upd H5 lw (.lst ws0)) b r0 := hb.kp tk6
          generalize upd H5 lw (.lst ws0) = H6 at hS6 ht6 hb6 ⊢
          refine ⟨t0, [b, .bl dn], rfl, SqT.of ht6, rfl, _, _, rfl, _, _, rfl, rfl, ?_⟩
          refine sq_st (σ' := [some (.ref d), some (.ref lo), some (.ref ls), some (.ref q), some (.ref lw), some b, some (.bl dn), v7]) rfl ?_
          obtain ⟨q0, rfl, hq0⟩ := hb6
          obtain ⟨os, eo6, po6⟩ := hS6.eo
          obtain ⟨ws, ew6, pw6⟩ := hS6.ew
          have hsl := dI.slen ok
          have hcn := dI.cnt
          have hwl := dI.wl
          have low := (Paired.length po6)
          have lww := (Paired.length pw6)
          rw [List.length_map] at hsl hcn hwl
          rw [List.length_append, List.length_singleton] at hwl
          have hz : sizeLine = 2 ^ 24 := rfl
          refine ⟨_, rfl, dn, rfl, ?_⟩
          cases dn with
          | true =>
            refine iteT' rfl ⟨_, rfl, .inl ⟨rfl, _, SqL.of eo6⟩, _, rfl, lo, os, _, rfl, rfl, eo6, by omega, ?_⟩
            refine ⟨_, ?_, _, _, _, L, W0, rfl, hS6.setO nlo nolw (os' := os ++ [V.ref q0]) (O' := O ++ [r0]) (par_snoc po6 ⟨q0, rfl, hq0⟩), dI.pop_done, ?_, tk, rfl⟩
            · rw [List.length_append, List.length_singleton]
              omega
            · refine hin.imp id fun z => ?_
              rcases List.mem_append.mp z with z | z
              · exact z
              · injection List.mem_singleton.mp z with _ z
                cases z
          | false =>
            refine iteF' rfl ⟨_, rfl, _, rfl, ls, q0, L, r0, rfl, rfl, hS6.es, fun p hp => SqT.of (hS6.el p hp), SqT.of hq0, _, rfl, ?_⟩
            by_cases hm : r0 ∈ L.map (·.2)
            · refine iteF' (by rw [decide_eq_true hm]; rfl) ?_
              refine ⟨_, ?_, _, _, _, L, W0, rfl, hS6, dI.pop_seen, ?_, tk, rfl⟩
              · rw [List.length_append, List.length_singleton]
                omega
              · rcases hin with z | z
                · exact .inl z
                · rcases List.mem_append.mp z with z | z
                  · exact .inr z
                  · injection List.mem_singleton.mp z with z _
                    exact .inl (z ▸ hm)
            · refine iteT' (by rw [decide_eq_false hm]; rfl) ?_
              have hAr : r0 ∈ Ah.map (·.1) := dI.wsub (r0, false) (List.mem_append_right _ (List.mem_singleton.mpr rfl))
              obtain ⟨ar, har, e0⟩ := List.mem_map.mp hAr
              obtain ⟨rr, zs⟩ := ar
              obtain rfl : rr = r0 := e0
              refine ⟨_, rfl, ⟨ls, L, rfl, hS6.es⟩, _, rfl, ls, q0, L, rr, rfl, rfl, hS6.es, fun p hp => SqT.of (hS6.el p hp), SqT.of hq0, by omega, fun L' _ pL => ?_⟩
              have pL := pL hm
              have lL' := pL.length_eq
              rw [List.length_cons] at lL'
              have pS : (L'.map (·.2)).Perm (rr :: L.map (·.2)) := pL.map _
              have tk7 : TK H6 (upd H6 ls (SetTO P w ls L')) := .upd hS6.es fun xs => setT_tup
              have hS7 := hS6.setS nls0 (L' := L') fun p hp => by
                rcases List.mem_cons.mp (pL.mem_iff.mp hp) with rfl | hp
                · exact hq0
                · exact hS6.el p hp
              have hq7 := tk7 _ _ hq0
              show tSeq _ _ _ _ (upd H6 ls (SetTO P w ls L'))
              generalize upd H6 ls (SetTO P w ls L') = H7 at hS7 hq7 ⊢
              obtain ⟨ws7, ew7, pw7⟩ := hS7.ew
              have lw7 := (Paired.length pw7)
              refine ⟨_, rfl, .inl ⟨rfl, _, SqL.of ew7⟩, _, rfl, (by show 2 ≤ sizeLine; decide), fun t2 nt2 => ?_⟩
              have s8 := Same.new (o := .tup [.ref q0, .bl true]) nt2
              have hS8 := hS7.same s8
              have hq8 := s8 _ _ hq7
              have ht8 : (upd H7 t2 (.tup [.ref q0, .bl true])) t2 = some (.tup [.ref q0, .bl true]) := upd_same
              have ew8 := s8 _ _ ew7
              have pw8 : Paired (WaitV (upd H7 t2 (.tup [.ref q0, .bl true]))) ws7 W0 := par_map (fun _ _ h => h.tk (TK.of_same s8)) pw7
              generalize upd H7 t2 (.tup [.ref q0, .bl true]) = H8 at hS8 hq8 ht8 ew8 pw8 ⊢
              refine ⟨lw, ws7, _, rfl, rfl, ew8, by omega, ?_⟩
              have hS9 := hS8.setW nlw0 nolw (ws' := ws7 ++ [V.ref t2]) (W' := W0 ++ [(rr, true)]) (par_snoc pw8 ⟨t2, .ref q0, rfl, ht8, q0, rfl, hq8⟩)
              have tk9 : TK H8 (upd H8 lw (.lst (ws7 ++ [V.ref t2]))) := .upd ew8 fun xs z => by cases z
              have hq9 := tk9 _ _ hq8
              have ew9 : (upd H8 lw (.lst (ws7 ++ [V.ref t2]))) lw = some (.lst (ws7 ++ [V.ref t2])) := upd_same
              generalize upd H8 lw (.lst (ws7 ++ [V.ref t2])) = H9 at hS9 hq9 ew9 ⊢
              obtain ⟨v, hv, la, zv, rfl, hla, pz⟩ := hk.at ok.nd har
              have lz : zv.length = zs.length := Paired.length pz
              have dg : zs.length ≤ 200 := ok.deg _ har
              have hla9 := hS9.b1 la _ (ne_of hla hd fun z => by cases z) hla
              have pz9 : Paired (RowV H9) zv zs := par_map (fun _ _ h => h.kp fun b xs e => hS9.b1 b _ (ne_of e hd fun z => by cases z) e) pz
              refine ⟨_, rfl, .inl ⟨rfl, _, SqL.of ew9⟩, ?_⟩
              refine ⟨_, rfl, _, rfl, d, _, rfl, .inr ⟨kvs, keyR rr, q0, .inr ⟨od, hS9.ed⟩, rfl, by rw [keyR_kV]; exact hq9, hv.symm⟩, la, rfl, ⟨zv, SqL.of hla9⟩, fun D nD => ?_⟩
              refine lc_it (walk_list (xs := zv)) (fun i H' => (∃ acc, H' D = some (.lst acc) ∧ Paired (WaitV H') acc ((zs.take i).map fun z => (z, false))) ∧ Same H9 H') ⟨⟨[], upd_same, .nil⟩, Same.new nD⟩ (fun i H' _ h => SqL.of (h.2 _ _ hla9)) ?_ ?_
              · rintro j x Ha Hb hj ⟨⟨acc, eD, pa⟩, sa⟩ ⟨rfl, hx⟩
                obtain ⟨z, ez, hz1⟩ := par_get pz9 hx
                refine ⟨rfl, ?_⟩
                unfold tYes
                dsimp only
                rw [if_pos rfl]
                refine ⟨_, rfl, (by show 2 ≤ sizeLine; decide), fun t3 nt3 => ?_⟩
                have s3 := Same.new (o := .tup [x, .bl false]) nt3
                have la := (Paired.length pa)
                rw [List.length_map, List.length_take] at la
                refine ⟨acc, s3 _ _ eD, by omega, ⟨⟨_, upd_same, ?_⟩, Same.upd_new (sa.trans s3) nD⟩⟩
                have tk3 : TK Hb (upd (upd Hb t3 (.tup [x, .bl false])) D (.lst (acc ++ [V.ref t3]))) := (TK.of_same s3).trans (.upd (s3 _ _ eD) fun xs z => by cases z)
                rw [take_next ez, List.map_append]
                refine par_snoc (par_map (fun _ _ h => h.tk tk3) pa) ⟨t3, x, rfl, ?_, ?_⟩
                · rw [upd_ne (ne_of upd_same (s3 _ _ eD) fun z => by cases z)]
                  exact upd_same
                · exact (hz1.kp (TK.of_same sa)).kp tk3
              · rintro Ha ⟨⟨acc, eD, pa⟩, sa⟩
                rw [lz, List.take_length] at pa
                have la := (Paired.length pa)
                rw [List.length_map] at la
                have ewA := sa _ _ ew9
                refine ⟨lw, D, _, acc, rfl, rfl, ewA, eD, by rw [List.length_append, List.length_singleton]; omega, ?_⟩
                have hSA := hS9.same sa
                refine ⟨_, ?_, _, _, _, L', _, rfl, hSA.setW nlw0 nolw (W' := W0 ++ [(rr, true)] ++ zs.map fun z => (z, false)) (par_app ?_ pa), dI.pop_new ok hm pS har, ?_, fun r hr => pS.mem_iff.mpr (List.mem_cons_of_mem _ (tk r hr)), rfl⟩
                · simp only [List.length_append, List.length_singleton, List.length_map]
                  omega
                · obtain ⟨wsA, e, p⟩ := hSA.ew
                  rw [ewA] at e
                  cases e
                  exact p
                · rcases hin with z | z
                  · exact .inl (pS.mem_iff.mpr (List.mem_cons_of_mem _ z))
                  · rcases List.mem_append.mp z with z | z
                    · exact .inr (List.mem_append_left _ (List.mem_append_left _ z))
                    · injection List.mem_singleton.mp z with z _
                      exact .inl (pS.mem_iff.mpr (z ▸ List.mem_cons_self))
      · rintro σ H' Q1 Q2 f ⟨v, h, kk, tr, q1⟩
        exact ⟨v, h, kk, tr, f _ _ q1⟩
    · rintro σ H3 ⟨v3, v4, v5, v6, v7, O, L, rfl, ⟨os, eo, po⟩, es, el, dI, tk, ed, b1⟩
      refine ⟨ed, ?_⟩
      have S3 : Same H (upd H3 d (.dT kvs)) := fun b o e => by
        by_cases nb : b = d
        · rw [nb, hd] at e
          rw [nb, upd_same]
          exact e
        · rw [upd_ne nb]
          exact b1 b o nb e
      have tk3 : TK H3 (upd H3 d (.dT kvs)) := .upd ed fun xs z => by cases z
      refine ⟨_, rfl, k lo os O _ nlo (by rw [upd_ne (Ne.symm dlo)]; exact eo) (par_map (fun _ _ h => h.kp tk3) po) (fun r hr => ?_) dI.osub ?_ S3⟩
      · rw [hk.len, ← List.length_map (f := fun p : List Int × List (List Int) => p.1), List.take_length] at tk
        exact (dI.out r (tk r hr)).elim id (fun z => (by cases z))
      · have := dI.cnt
        have := dI.slen ok
        omega
end
end Y
set_option Elab.async false
set_option linter.all false
set_option maxRecDepth 100000
set_option maxHeartbeats 2000000
namespace Y
open PySem L2
abbrev sParts : Stmt := top 35
abbrev NParts : List Str := ["ahead", "row", "behind", "then", "parts", "start", "waiting"]
/-- a list of rows, all of A -/
def RowsIn (A : Ahead) (H : Hp) (k : Nat) (a : Addr) : Prop := ∃ vs zs, H a = some (.lst vs) ∧ Paired (RowV H) vs zs ∧ (∀ z ∈ zs, z ∈ A.map (·.1)) ∧ vs.length ≤ k
/-- for each row the list of the rows behind it -/
structure PartH (A : Ahead) (H0 H : Hp) (db : Addr) (bk : List (List Key × V)) (B : List (List Int × Addr)) (k : Nat) : Prop where
  eb : H db = some (.dT bk)
  kb : KVs (fun v a => v = V.ref a) bk B
  nb : B.map (·.1) = A.map (·.1)
  el : ∀ p ∈ B, RowsIn A H k p.2
  nn : ∀ p ∈ B, H0 p.2 = none
section
variable {A : Ahead} {H0 H H' : Hp} {db : Addr} {bk : List (List Key × V)} {B : List (List Int × Addr)} {k k' : Nat}
theorem RowsIn.kp {a : Addr} (h : RowsIn A H k a) (le : k ≤ k') (s : TK H H') (e : ∀ vs, H a = some (.lst vs) → H' a = some (.lst vs)) : RowsIn A H' k' a := by
  obtain ⟨vs, zs, h1, h2, h3, h4⟩ := h
  exact ⟨vs, zs, e _ h1, par_map (fun _ _ h => h.kp s) h2, h3, Nat.le_trans h4 le⟩
theorem PartH.same (h : PartH A H0 H db bk B k) (s : Same H H') (le : k ≤ k') : PartH A H0 H' db bk B k' :=
  ⟨s _ _ h.eb, h.kb, h.nb, fun p hp => (h.el p hp).kp le (TK.of_same s) fun vs e => s _ _ e, h.nn⟩
/-- what is not among these lists changes -/
theorem PartH.put (h : PartH A H0 H db bk B k) {a : Addr} {o u : HO} (e : H a = some u) (n1 : a ≠ db) (n2 : ∀ p ∈ B, p.2 ≠ a) (nt : ∀ xs, u ≠ .tup xs) : PartH A H0 (upd H a o) db bk B k := by
  refine ⟨by rw [upd_ne (Ne.symm n1)]; exact h.eb, h.kb, h.nb, fun p hp => (h.el p hp).kp (Nat.le_refl _) (.upd e nt) fun vs e' => ?_, h.nn⟩
  rw [upd_ne (n2 p hp)]
  exact e'
/-- a row is put into one of the lists -/
theorem PartH.add (h : PartH A H0 H db bk B k) {a : Addr} {vs : List V} {zs : List (List Int)} {v : V} {r : List Int} (e : H a = some (.lst vs)) (pv : Paired (RowV H) vs zs) (iz : ∀ z ∈ zs, z ∈ A.map (·.1)) (lv : vs.length ≤ k) (hv : RowV H v r) (hr : r ∈ A.map (·.1)) :
    PartH A H0 (upd H a (.lst (vs ++ [v]))) db bk B (k + 1) := by
  have tk : TK H (upd H a (.lst (vs ++ [v]))) := .upd e fun xs z => by cases z
  refine ⟨by rw [upd_ne (ne_of h.eb e fun z => by cases z)]; exact h.eb, h.kb, h.nb, fun p hp => ?_, h.nn⟩
  by_cases c : p.2 = a
  · rw [c]
    refine ⟨_, zs ++ [r], upd_same, par_snoc (par_map (fun _ _ h => h.kp tk) pv) (hv.kp tk), fun z hz => ?_, by rw [List.length_append]; exact Nat.succ_le_succ lv⟩
    rcases List.mem_append.mp hz with hz | hz
    · exact iz z hz
    · rw [List.mem_singleton.mp hz]; exact hr
  · exact (h.el p hp).kp (Nat.le_succ _) tk fun vs' e' => by rw [upd_ne c]; exact e'
theorem PartH.lst (h : PartH A H0 H db bk B k) {r : List Int} (nd : (A.map (·.1)).Nodup) (hr : r ∈ A.map (·.1)) : ∃ a vs zs, valV bk (keyR r) = some (.ref a) ∧ H0 a = none ∧ H a = some (.lst vs) ∧ Paired (RowV H) vs zs ∧ (∀ z ∈ zs, z ∈ A.map (·.1)) ∧ vs.length ≤ k := by
  rw [← h.nb] at hr nd
  obtain ⟨p, hp, rfl⟩ := List.mem_map.mp hr
  obtain ⟨v, hv, rfl⟩ := h.kb.at nd hp
  obtain ⟨vs, zs, h1, h2, h3, h4⟩ := h.el p hp
  exact ⟨p.2, vs, zs, hv, h.nn p hp, h1, h2, h3, h4⟩
end
def spParts (K : PySem.W.Frag) : Sp := fun vs H Q _ => ∃ (d : Addr) (kvs : List (List Key × V)) (A : Ahead), vs = [.ref d] ∧ H d = some (.dT kvs) ∧ KVs (RowsL H) kvs A ∧ AhOk A ∧
  ∀ d' pk (M : List (List Int × List Int)) H', H d' = none → H' d' = some (.dT pk) → KVs (RowV H') pk M → (M.map (·.1)).Nodup → (∀ r ∈ A.map (·.1), r ∈ M.map (·.1)) → Same H H' → Q (.ref d') H'
section
variable {P : Program} {w : World} {K : PySem.W.Frag} {mg : Str → Option Value} {base : Heap} {fDeep : Addr}
theorem scParts : FnScope NParts ["ahead"] (defScope sParts) := ⟨rfl, rfl, rfl, by decide +kernel, rfl, by decide +kernel, by decide +kernel⟩
theorem ok_parts {f : Addr} {fd fdD : FuncData} (F : Fun K "parts_of" "parts_of" sParts f fd) (gR : mg "reversed" = none) (gD : mg "deep_order" = some (.ref fDeep)) (GD : FnOk P w K mg base CX0 1 fDeep fdD ["ahead"] (spDeep K)) (FD : Fun K "deep_order" "deep_order" sDeep fDeep fdD) (bD : Binds K fdD ["ahead"] []) :
    FnOk P w K mg base CX0 2 f fd ["ahead"] (spParts K) := by
  refine F.ok scParts (fun vs H Q E h => ?_) (fun cdv A outer s H vs Q E hr h => ?_)
  · obtain ⟨d, kvs, A, rfl, _⟩ := h
    rfl
  · obtain ⟨d, kvs, Ah, rfl, hd, hk, ok, k⟩ := h
    have hu := hu_of hr
    refine ⟨_, pss_cons (ps_lock (ps_setDcT (own := [("row", 1)]) (i := 2) (g := gName 1) (tt := tYes) hu rfl scParts.nd rfl rfl (sw_dict rfl rfl rfl (by decide +kernel)) (pi_keys (pv 0)) (blkOk_by (N := NParts) (sc := defScope sParts) (by decide +kernel))
        (fun _ _ _ _ _ => pg_name (i := 1) scParts.nd rfl (Or.inl rfl)) (fun _ _ _ _ _ => pts_nil) (fun _ _ _ _ _ => pv 1) (fun _ _ _ _ _ => pe_lst pa_nil)))
      (pss_cons (ps_lock (ps_for PassesOwn.never rfl (pi_keys (pv 0)) (pg_name (i := 1) scParts.nd rfl (Or.inl rfl))
        (pss_one (ps_for PassesOwn.never rfl (pi_list (pe_dget hu (pv 0) (pv 1) (fun _ _ => rfl))) (pg_name (i := 3) scParts.nd rfl (Or.inl rfl))
          (pss_one (ps_expr (pe_bm PySem.F.plainAttrs_list PySem.F.slot_list_append PySem.F.type_list_append mt_append (pe_dget hu (pv 2) (pv 3) (fun _ _ => rfl)) (pa_cons (pv 1) pa_nil))))))))
      (pss_cons (ps_set (i := 4) scParts.nd rfl (Or.inl rfl) pe_dnewT)
      (pss_cons (ps_for PassesOwn.never rfl (pi_reversed (by rfl) gR (pa_cons (pe_call GD hr (by rfl) gD FD.kp bD .nil pass0 (pa_cons (pv 0) pa_nil)) pa_nil)) (pg_name (i := 5) scParts.nd rfl (Or.inl rfl))
        (pss_cons (ps_set (i := 6) scParts.nd rfl (Or.inl rfl) (pe_lst (pa_cons (pv 5) pa_nil)))
        (pss_one (ps_while PassesOwn.never (pt_truth (pv 6) (fun _ => rfl))
          (pss_cons (ps_set (i := 1) scParts.nd rfl (Or.inl rfl) (pe_bm0 PySem.F.plainAttrs_list PySem.F.slot_list_pop PySem.F.type_list_pop mt_pop (pv 6)))
          (pss_one (ps_if (pt_cmp (pc_dnotin hu (pv 1) (pv 4)))
            (pss_cons (ps_dput hu (pv 4) (pv 1) (pv 5) rfl)
            (pss_one (ps_expr (pe_bm PySem.F.plainAttrs_list PySem.F.slot_list_extend PySem.F.type_list_extend mt_extend (pv 6) (pa_cons (pe_dget hu (pv 2) (pv 1) (fun _ _ => rfl)) pa_nil)))))
            pss_nil)))))))
      (pss_one (ps_ret (pv 4)))))), ?_⟩
    -- the dict of what lies behind
    refine ⟨d, .dT kvs, hd, trivial, fun od => ?_⟩
    refine ⟨_, rfl, d, od, rfl, .inr ⟨kvs, upd_same, fun db ndb => ?_⟩⟩
    have ndb' : db ≠ d := fun z => by rw [z, upd_same] at ndb; cases ndb
    have ndb0 : H db = none := by rw [upd_ne ndb'] at ndb; exact ndb
    have b0 : But1 d H (upd H d (.frz od (.dT kvs))) := fun b o n e => by rw [upd_ne n]; exact e
    have hz : sizeLine = 2 ^ 24 := rfl
    have lk := hk.len
    have lA := ok.len
    have ndA := ok.nd
    refine dcT_it walk_keysT (fun i H' => ∃ bk B, H' db = some (.dT bk) ∧ KVs (fun v a => v = V.ref a) bk B ∧ B.map (·.1) = (Ah.map (·.1)).take i ∧ (∀ p ∈ B, H' p.2 = some (.lst [])) ∧ (∀ p ∈ B, H p.2 = none) ∧ H' d = some (.frz od (.dT kvs)) ∧ But1 d H H')
      ⟨[], [], upd_same, .nil, rfl, (fun p hp => by cases hp), (fun p hp => by cases hp), by rw [upd_ne (Ne.symm ndb')]; exact upd_same, b0.new ndb0⟩ (fun i H' _ ⟨_, _, _, _, _, _, _, e, _⟩ => e) ?_ ?_
    · rintro i x H1 H1' hi ⟨bk, B, eb, kb, nB, eB, nn, ed, b1⟩ ⟨rfl, key, val, q, hkv, rfl, eq⟩
      obtain ⟨pr, epr, hkey, hval⟩ := par_get hk hkv
      obtain rfl : key = keyR pr.1 := hkey
      refine ⟨rfl, ?_⟩
      unfold tYes
      dsimp only
      rw [if_pos rfl]
      refine ⟨_, rfl, (by show 0 ≤ sizeLine; omega), fun a na => ?_⟩
      have sa := Same.new (o := .lst ([] : List V)) na
      have nadb : a ≠ db := Ne.symm (ne_of_none eb na)
      have nad : a ≠ d := Ne.symm (ne_of_none ed na)
      have na0 : H a = none := by
        cases e : H a with
        | none => rfl
        | some o => rw [b1 a o nad e] at na; cases na
      have hnew : pr.1 ∉ B.map (·.1) := by
        rw [nB]
        intro z
        obtain ⟨j, hj⟩ := List.mem_iff_getElem?.mp z
        rw [List.getElem?_take] at hj
        split at hj
        · rename_i lt
          have e2 : (Ah.map (·.1))[i]? = some pr.1 := by rw [List.getElem?_map, epr]; rfl
          obtain ⟨h1, g1⟩ := List.getElem?_eq_some_iff.mp hj
          obtain ⟨h2, g2⟩ := List.getElem?_eq_some_iff.mp e2
          exact List.pairwise_iff_getElem.mp ndA j i h1 h2 lt (g1.trans g2.symm)
        · cases hj
      have lb : bk.length = i := by
        rw [kb.len, ← List.length_map (f := fun p : List Int × Addr => p.1), nB, List.length_take, List.length_map]
        omega
      refine ⟨bk, keyR pr.1, q, rfl, sa _ _ eq, sa _ _ eb, by omega, _, B ++ [(pr.1, a)], upd_same, kb.snoc hnew rfl, ?_, ?_, ?_, ?_, (b1.same sa).new ndb0⟩
      · rw [List.map_append, nB, take_next (by rw [List.getElem?_map, epr]; rfl)]
        rfl
      · intro p hp
        rcases List.mem_append.mp hp with hp | hp
        · have e := eB p hp
          rw [upd_ne (ne_of (sa _ _ e) (sa _ _ eb) fun z => by cases z)]
          exact sa _ _ e
        · rw [List.mem_singleton.mp hp]
          show upd _ _ _ a = _
          rw [upd_ne nadb]
          exact upd_same
      · intro p hp
        rcases List.mem_append.mp hp with hp | hp
        · exact nn p hp
        · rw [List.mem_singleton.mp hp]
          exact na0
      · rw [upd_ne (Ne.symm ndb')]
        exact sa _ _ ed
    · rintro H1 ⟨bk, B, eb, kb, nB, eB, nn, ed, b1⟩
      rw [lk, ← List.length_map (f := fun p : List Int × List (List Int) => p.1), List.take_length] at nB
      refine gset_go (σ' := [some (.ref d), none, some (.ref db), none, none, none, none]) rfl ?_
      dsimp only
      refine ⟨ed, ?_⟩
      have nB2 : ∀ p ∈ B, p.2 ≠ d := fun p hp z => by have := nn p hp; rw [z, hd] at this; cases this
      have pH : PartH Ah H (upd H1 d (.dT kvs)) db bk B 0 := (show PartH Ah H H1 db bk B 0 from ⟨eb, kb, nB, fun p hp => ⟨[], [], eB p hp, .nil, (fun z hz => (by cases hz)), Nat.le_refl 0⟩, nn⟩).put ed (Ne.symm ndb') nB2 fun xs z => by cases z
      have s1 : Same H (upd H1 d (.dT kvs)) := fun b o e => by
        by_cases c : b = d
        · rw [c, hd] at e
          rw [c, upd_same]
          exact e
        · rw [upd_ne c]
          exact b1 b o c e
      have hd1 : (upd H1 d (.dT kvs)) d = some (.dT kvs) := upd_same
      show tSeq _ _ _ _ (upd H1 d (.dT kvs))
      generalize upd H1 d (.dT kvs) = H2 at pH s1 hd1 ⊢
      -- it is filled
      refine ⟨d, .dT kvs, hd1, trivial, fun od2 => ?_⟩
      refine ⟨_, rfl, d, od2, rfl, .inr ⟨kvs, upd_same, ?_⟩⟩
      have b2 : But1 d H (upd H2 d (.frz od2 (.dT kvs))) := fun b o n e => by rw [upd_ne n]; exact s1 _ _ e
      have pH2 : PartH Ah H (upd H2 d (.frz od2 (.dT kvs))) db bk B 0 := pH.put hd1 (Ne.symm ndb') nB2 fun xs z => by cases z
      refine for_it walk_keysT (fun i σ H' => ∃ (v1 v3 : Option V), σ = [some (.ref d), v1, some (.ref db), v3, none, none, none] ∧ PartH Ah H H' db bk B (200 * i) ∧ H' d = some (.frz od2 (.dT kvs)) ∧ But1 d H H')
        ⟨none, none, rfl, pH2, upd_same, b2⟩ (fun i σ H' _ ⟨_, _, _, _, e, _⟩ => e) ?_ ?_
      · rintro i y σ H3 H3' hi ⟨v1, v3, rfl, pH, ed, b1⟩ ⟨rfl, key, val, q, hkv, rfl, eq⟩
        obtain ⟨pr, epr, hkey, la, zv, hval, hla, pz⟩ := par_get hk hkv
        obtain rfl : key = keyR pr.1 := hkey
        obtain rfl : val = V.ref la := hval
        rw [keyR_kV] at eq
        have mpr : pr ∈ Ah := List.mem_of_getElem? epr
        have lz := Paired.length pz
        have dg := ok.deg _ mpr
        have nla : la ≠ d := ne_of hla hd fun z => by cases z
        obtain ⟨v, hv, la', zv', e1, hla', pz'⟩ := hk.at ok.nd mpr
        have hla3 := b1 la' _ (ne_of hla' hd fun z => by cases z) hla'
        have lz' := Paired.length pz'
        refine ⟨_, rfl, _, rfl, d, v, rfl, .inr ⟨kvs, keyR pr.1, q, .inr ⟨od2, ed⟩, rfl, by rw [keyR_kV]; exact eq, hv.symm⟩, la', e1, ⟨zv', SqL.of hla3⟩, ?_⟩
        refine for_list (K := K) (a := la') (xs := zv') (fun j σ H' => ∃ (v3 : Option V), σ = [some (.ref d), some (.ref q), some (.ref db), v3, none, none, none] ∧ PartH Ah H H' db bk B (200 * i + j) ∧ H' d = some (.frz od2 (.dT kvs)) ∧ But1 d H H' ∧ TK H3' H')
          ⟨v3, rfl, pH, ed, b1, fun b xs e => e⟩ (fun j σ H' _ ⟨_, _, _, _, b, _⟩ => SqL.of (b la' _ (ne_of hla' hd fun z => by cases z) hla')) ?_ ?_
        · rintro j x σ H4 hx ⟨v3, rfl, pH, ed, b1, tk⟩
          obtain ⟨z, ez, b, rfl, hzb⟩ := par_get pz' hx
          have mz : z ∈ Ah.map (·.1) := ok.closed _ mpr z (List.mem_of_getElem? ez)
          obtain ⟨a, vs, zs, hva, na, ha, pv, iz, lv⟩ := pH.lst ndA mz
          have hzb4 := b1 b _ (ne_of hzb hd fun z => by cases z) hzb
          have hz2 := (List.getElem?_eq_some_iff.mp ez).1
          refine ⟨_, rfl, _, rfl, db, _, rfl, .inr ⟨bk, keyR z, b, .inl pH.eb, rfl, by rw [keyR_kV]; exact hzb4, hva.symm⟩, .inl ⟨rfl, _, SqL.of ha⟩, _, rfl, a, vs, _, rfl, rfl, ha, by omega, ?_⟩
          refine ⟨_, rfl, pH.add ha pv iz lv ⟨q, rfl, tk _ _ eq⟩ (List.mem_map.mpr ⟨pr, mpr, rfl⟩), ?_, b1.new na, TK.trans tk (.upd ha fun xs z => by cases z)⟩
          rw [upd_ne (ne_of ed ha fun z => by cases z)]
          exact ed
        · rintro σ H4 ⟨v3, rfl, pH, ed, b1, tk⟩
          exact ⟨_, _, rfl, pH.same (Same.refl' _) (by omega), ed, b1⟩
      · rintro σ H3 ⟨v1, v3, rfl, pH, ed, b1⟩
        refine ⟨ed, ?_⟩
        have pH3 : PartH Ah H (upd H3 d (.dT kvs)) db bk B (200 * kvs.length) := pH.put ed (Ne.symm ndb') nB2 fun xs z => by cases z
        have s3 : Same H (upd H3 d (.dT kvs)) := fun b o e => by
          by_cases c : b = d
          · rw [c, hd] at e
            rw [c, upd_same]
            exact e
          · rw [upd_ne c]
            exact b1 b o c e
        show tSeq _ _ _ _ (upd H3 d (.dT kvs))
        generalize upd H3 d (.dT kvs) = H4 at pH3 s3 ⊢
        have pH4 := pH3.same (Same.refl' _) (k' := 12000) (by omega)
        refine fun dp ndp => gset_go (σ' := [some (.ref d), v1, some (.ref db), v3, some (.ref dp), none, none]) rfl ?_
        dsimp only
        have sp := Same.new (o := .dT []) ndp
        have ndp0 : H dp = none := Same.none s3 ndp
        have edp : (upd H4 dp (.dT [])) dp = some (.dT []) := upd_same
        have pH5 := pH4.same sp (Nat.le_refl _)
        have s5 := s3.trans sp
        generalize upd H4 dp (.dT []) = H5 at edp pH5 s5 ⊢
        refine ⟨_, rfl, d, kvs, Ah, rfl, s5 _ _ hd, hk.mono fun v z h => h.kp fun b o e _ => s5 _ _ e, ok, fun l os O H6 nl el po aO oA lO s6 => ⟨l, os, rfl, SqL.of el, ?_⟩⟩
        have nl0 : H l = none := Same.none s5 nl
        have lpo := Paired.length po
        have edp6 := s6 _ _ edp
        have ldp : l ≠ dp := ne_of el edp6 fun z => by cases z
        have ldb : l ≠ db := Ne.symm (ne_of_none pH5.eb nl)
        have dpdb : dp ≠ db := Ne.symm (ne_of_none pH4.eb ndp)
        refine for_it (walk_rev (K := K) (a := l) (xs := os)) (fun i σ H' => ∃ (v1 v5 v6 : Option V) (pk : List (List Key × V)) (M : List (List Int × List Int)), σ = [some (.ref d), v1, some (.ref db), v3, some (.ref dp), v5, v6] ∧ H' dp = some (.dT pk) ∧ KVs (RowV H') pk M ∧ (M.map (·.1)).Nodup ∧
            (∀ r ∈ M.map (·.1), r ∈ Ah.map (·.1)) ∧ (∀ r ∈ O.reverse.take i, r ∈ M.map (·.1)) ∧ PartH Ah H H' db bk B 12000 ∧ H' l = some (.lst os) ∧ Same H H' ∧ TK H6 H')
          ⟨v1, none, none, [], [], rfl, edp6, .nil, List.nodup_nil, (fun r hr => by cases hr), (fun r hr => by cases hr), pH5.same s6 (Nat.le_refl _), el, s5.trans s6, fun b xs e => e⟩ (fun i σ H' _ ⟨_, _, _, _, _, _, _, _, _, _, _, _, e, _⟩ => SqL.of e) ?_ ?_
        · rintro i x σ H7 H7' hi ⟨v1, v5, v6, pk, M, rfl, ep, hM, nM, iM, tM, pH, el, s7, tk⟩ ⟨rfl, hx⟩
          obtain ⟨r, er, q, rfl, hq⟩ := par_get po hx
          have er2 : O.reverse[i]? = some r := by
            rw [List.getElem?_reverse (by omega), ← lpo]
            exact er
          have mr : r ∈ Ah.map (·.1) := oA r (List.mem_of_getElem? er)
          have hq7 := tk _ _ hq
          refine ⟨_, rfl, (by show 1 ≤ sizeLine; omega), fun lw nlw => ?_⟩
          refine gset_go (σ' := [some (.ref d), v1, some (.ref db), v3, some (.ref dp), some (.ref q), some (.ref lw)]) rfl ?_
          dsimp only
          have nlw0 : H lw = none := Same.none s7 nlw
          have lwl : lw ≠ l := Ne.symm (ne_of_none el nlw)
          have lwdp : lw ≠ dp := Ne.symm (ne_of_none ep nlw)
          have lwdb : lw ≠ db := Ne.symm (ne_of_none pH.eb nlw)
          have nBw : ∀ p ∈ B, p.2 ≠ lw := fun p hp z => by
            obtain ⟨vs, zs, e, _⟩ := pH.el p hp
            rw [z, nlw] at e
            cases e
          have sw := Same.new (o := .lst [V.ref q]) nlw
          refine while_m (fun m σ H' => ∃ (v1 : Option V) (pk : List (List Key × V)) (M : List (List Int × List Int)) (ws : List V) (W : List (List Int)), σ = [some (.ref d), v1, some (.ref db), v3, some (.ref dp), some (.ref q), some (.ref lw)] ∧ H' dp = some (.dT pk) ∧ KVs (RowV H') pk M ∧ (M.map (·.1)).Nodup ∧
              (∀ r ∈ M.map (·.1), r ∈ Ah.map (·.1)) ∧ (∀ r ∈ O.reverse.take i, r ∈ M.map (·.1)) ∧ PartH Ah H H' db bk B 12000 ∧ H' l = some (.lst os) ∧ Same H H' ∧ TK H6 H' ∧ H' lw = some (.lst ws) ∧ Paired (RowV H') ws W ∧ (∀ z ∈ W, z ∈ Ah.map (·.1)) ∧ (r ∈ M.map (·.1) ∨ r ∈ W) ∧ W.length ≤ 1 + 12000 * M.length ∧ m = W.length + 12001 * (61 - M.length))
            ⟨_, v1, pk, M, [.ref q], [r], rfl, sw _ _ ep, hM.mono fun v z h => h.kp (TK.of_same sw), nM, iM, tM, pH.same sw (Nat.le_refl _), sw _ _ el, s7.trans sw, tk.trans (TK.of_same sw), upd_same, .cons ⟨q, rfl, sw _ _ hq7⟩ .nil, (fun z hz => by rw [List.mem_singleton.mp hz]; exact mr), .inr (List.mem_singleton.mpr rfl), (by rw [List.length_singleton]; omega), rfl⟩ ?_ ?_
          · rintro m σ H8 ⟨v1, pk, M, ws, W, rfl, ep, hM, nM, iM, tM, pH, el, s8, tk, ew, pw, iW, hin, lW, rfl⟩
            refine ⟨_, rfl, !ws.isEmpty, .inl ⟨ws, SqL.of ew, rfl⟩, ?_⟩
            by_cases hws : ws = []
            · subst hws
              cases pw
              refine iteF' rfl ?_
              refine ⟨_, _, _, pk, M, rfl, ep, hM, nM, iM, fun z hz => ?_, pH, el, s8, tk⟩
              rw [take_next er2] at hz
              rcases List.mem_append.mp hz with hz | hz
              · exact tM z hz
              · rw [List.mem_singleton.mp hz]
                exact hin.elim id (fun z => (by cases z))
            · refine iteT' (by cases ws with | nil => exact absurd rfl hws | cons _ _ => rfl) ?_
              obtain ⟨ws0, v0, W0, r0, rfl, rfl, pw0, q0, rfl, hq0⟩ := par_last pw hws
              have lM : M.length ≤ 60 := by
                have := sub_len nM iM
                rw [List.length_map, List.length_map] at this
                omega
              have lw0 := Paired.length pw0
              rw [List.length_append, List.length_singleton] at lW
              have mr0 : r0 ∈ Ah.map (·.1) := iW r0 (List.mem_append_right _ (List.mem_singleton.mpr rfl))
              refine ⟨_, rfl, .inl ⟨rfl, _, SqL.of ew⟩, lw, ws0 ++ [.ref q0], .ref q0, rfl, rfl, ew, by simp, ?_⟩
              rw [List.dropLast_concat]
              refine gset_go (σ' := [some (.ref d), some (.ref q0), some (.ref db), v3, some (.ref dp), some (.ref q), some (.ref lw)]) rfl ?_
              dsimp only
              have tk9 : TK H8 (upd H8 lw (.lst ws0)) := .upd ew fun xs z => by cases z
              have ep9 : (upd H8 lw (.lst ws0)) dp = some (.dT pk) := by rw [upd_ne (Ne.symm lwdp)]; exact ep
              have hM9 : KVs (RowV (upd H8 lw (.lst ws0))) pk M := hM.mono fun v z h => h.kp tk9
              have pH9 : PartH Ah H (upd H8 lw (.lst ws0)) db bk B 12000 := pH.put ew lwdb nBw fun xs z => by cases z
              have el9 : (upd H8 lw (.lst ws0)) l = some (.lst os) := by rw [upd_ne (Ne.symm lwl)]; exact el
              have s9 : Same H (upd H8 lw (.lst ws0)) := Same.upd_new s8 nlw0
              have ew9 : (upd H8 lw (.lst ws0)) lw = some (.lst ws0) := upd_same
              have pw9 : Paired (RowV (upd H8 lw (.lst ws0))) ws0 W0 := par_map (fun _ _ h => h.kp tk9) pw0
              have hq9 := tk9 _ _ hq0
              have hqq9 := tk9 _ _ (tk _ _ hq)
              have tk69 := tk.trans tk9
              have iW0 : ∀ z ∈ W0, z ∈ Ah.map (·.1) := fun z hz => iW z (List.mem_append_left _ hz)
              generalize upd H8 lw (.lst ws0) = H9 at ep9 hM9 pH9 el9 s9 ew9 pw9 hq9 hqq9 tk69 ⊢
              refine ⟨_, rfl, _, rfl, dp, _, rfl, DGet.t ep9 (k := keyR r0) (by rw [keyR_kV]; exact hq9), _, rfl, ?_⟩
              by_cases cin : r0 ∈ M.map (·.1)
              · refine iteF' (by rw [hM9.some_iff nM, decide_eq_true cin]; rfl) ?_
                refine ⟨_, ?_, _, pk, M, ws0, W0, rfl, ep9, hM9, nM, iM, tM, pH9, el9, s9, tk69, ew9, pw9, iW0, ?_, by omega, rfl⟩
                · rw [List.length_append, List.length_singleton]
                  omega
                · rcases hin with z | z
                  · exact .inl z
                  · rcases List.mem_append.mp z with z | z
                    · exact .inr z
                    · rw [List.mem_singleton.mp z]
                      exact .inl cin
              · refine iteT' (by rw [hM9.some_iff nM, decide_eq_false cin]; rfl) ?_
                have lpk := hM9.len
                refine ⟨_, rfl, _, rfl, _, rfl, dp, _, rfl, DPut.t ep9 (k := keyR r0) (by rw [keyR_kV]; exact hq9) (by omega), ?_⟩
                have tkA : TK H9 (upd H9 dp (.dT (putK pk (keyR r0) (.ref q)))) := .upd ep9 fun xs z => by cases z
                have epA : (upd H9 dp (.dT (putK pk (keyR r0) (.ref q)))) dp = some (.dT (putK pk (keyR r0) (.ref q))) := upd_same
                have hMA : KVs (RowV (upd H9 dp (.dT (putK pk (keyR r0) (.ref q))))) (putK pk (keyR r0) (.ref q)) (M ++ [(r0, r)]) := KVs.snoc (hM9.mono fun v z h => h.kp tkA) cin ⟨q, rfl, tkA _ _ hqq9⟩
                have nBd : ∀ p ∈ B, p.2 ≠ dp := fun p hp z => by
                  obtain ⟨vs, zs, e, _⟩ := pH9.el p hp
                  rw [z, ep9] at e
                  cases e
                have pHA : PartH Ah H (upd H9 dp (.dT (putK pk (keyR r0) (.ref q)))) db bk B 12000 := pH9.put ep9 dpdb nBd fun xs z => by cases z
                have elA : (upd H9 dp (.dT (putK pk (keyR r0) (.ref q)))) l = some (.lst os) := by rw [upd_ne ldp]; exact el9
                have ewA : (upd H9 dp (.dT (putK pk (keyR r0) (.ref q)))) lw = some (.lst ws0) := by rw [upd_ne lwdp]; exact ew9
                have pwA : Paired (RowV (upd H9 dp (.dT (putK pk (keyR r0) (.ref q))))) ws0 W0 := par_map (fun _ _ h => h.kp tkA) pw9
                have sA : Same H (upd H9 dp (.dT (putK pk (keyR r0) (.ref q)))) := Same.upd_new s9 ndp0
                have hqA := tkA _ _ hq9
                have tk6A := tk69.trans tkA
                generalize upd H9 dp (.dT (putK pk (keyR r0) (.ref q))) = HA at epA hMA pHA elA ewA pwA sA hqA tk6A ⊢
                obtain ⟨a, vs, zs, hva, na, ha, pv_, iz, lv⟩ := pHA.lst ndA mr0
                have lzs := Paired.length pv_
                refine ⟨_, rfl, .inl ⟨rfl, _, SqL.of ewA⟩, _, rfl, _, rfl, db, _, rfl, .inr ⟨bk, keyR r0, q0, .inl pHA.eb, rfl, by rw [keyR_kV]; exact hqA, hva.symm⟩, lw, a, ws0, vs, rfl, rfl, ewA, ha, by omega, ?_⟩
                have tkB : TK HA (upd HA lw (.lst (ws0 ++ vs))) := .upd ewA fun xs z => by cases z
                refine ⟨_, ?_, _, _, M ++ [(r0, r)], ws0 ++ vs, W0 ++ zs, rfl, by rw [upd_ne (Ne.symm lwdp)]; exact epA, hMA.mono fun v z h => h.kp tkB, ?_, ?_, ?_, pHA.put ewA lwdb nBw (fun xs z => (by cases z)), by rw [upd_ne (Ne.symm lwl)]; exact elA, Same.upd_new sA nlw0, tk6A.trans tkB, upd_same, par_app (par_map (fun _ _ h => h.kp tkB) pwA) (par_map (fun _ _ h => h.kp tkB) pv_), ?_, ?_, ?_, rfl⟩
                · simp only [List.length_append, List.length_singleton]
                  omega
                · rw [List.map_append, List.nodup_append]
                  refine ⟨nM, List.nodup_cons.mpr ⟨List.not_mem_nil, List.nodup_nil⟩, fun z hz y hy e => ?_⟩
                  have hy := List.mem_singleton.mp hy
                  exact cin (by rw [← (show z = r0 from e.trans hy)]; exact hz)
                · intro z hz
                  rw [List.map_append] at hz
                  rcases List.mem_append.mp hz with hz | hz
                  · exact iM z hz
                  · rw [List.mem_singleton.mp hz]
                    exact mr0
                · intro z hz
                  rw [List.map_append]
                  exact List.mem_append_left _ (tM z hz)
                · intro z hz
                  rcases List.mem_append.mp hz with hz | hz
                  · exact iW0 z hz
                  · exact iz z hz
                · rw [List.map_append]
                  rcases hin with z | z
                  · exact .inl (List.mem_append_left _ z)
                  · rcases List.mem_append.mp z with z | z
                    · exact .inr (List.mem_append_left _ z)
                    · rw [List.mem_singleton.mp z]
                      exact .inl (List.mem_append_right _ (List.mem_singleton.mpr rfl))
                · simp only [List.length_append, List.length_singleton]
                  omega
          · rintro σ H' Q1 Q2 f ⟨v, h, kk, tr, q1⟩
            exact ⟨v, h, kk, tr, f _ _ q1⟩
        · rintro σ H7 ⟨v1, v5, v6, pk, M, rfl, ep, hM, nM, iM, tM, pH, el, s7, tk⟩
          refine ⟨_, rfl, k dp pk M _ ndp0 ep hM nM (fun r hr => tM r ?_) s7⟩
          rw [lpo, ← List.length_reverse, List.take_length]
          exact List.mem_reverse.mpr (aO r hr)
end
end Y
set_option Elab.async false
set_option linter.all false
set_option maxRecDepth 100000
set_option maxHeartbeats 2000000
namespace Y
open PySem L2
abbrev sLost : Stmt := top 36
abbrev NLost : List Str := ["yard", "row", "steps", "parts", "lost", "now", "_", "behind", "move"]
/-! ### ints as data -/
theorem dp_ints {K : PySem.W.Frag} {H : Hp} : ∀ r : List Int, DpAll K H (r.map V.int) (r.map PyData.int)
  | [] => .nil
  | a :: r => .cons (.int a) (dp_ints r)
theorem row_shaped (r : List Int) : SeqAt.shaped (PyData.tuple (r.map PyData.int)) = true := by
  unfold SeqAt.shaped
  rw [Bool.and_eq_true_iff]
  refine ⟨lay_ints r, decide_eq_true ?_⟩
  have := depth_ints r
  show PyData.depthAll (r.map PyData.int) + 1 ≤ 64
  omega
theorem RowV.dp {K : PySem.W.Frag} {H : Hp} {v : V} {r : List Int} (h : RowV H v r) : Dp K H v (.tuple (r.map PyData.int)) := by
  obtain ⟨b, rfl, h⟩ := h
  exact .tup (SqT.of h) (dp_ints r)
theorem alike_ints : ∀ r s : List Int, PySem.W.alikeAll (r.map PyData.int) (s.map PyData.int) = true
  | [], _ => rfl
  | _ :: _, [] => rfl
  | a :: r, b :: s => by
    show (PySem.W.alike (.int a) (.int b) && PySem.W.alikeAll (r.map PyData.int) (s.map PyData.int)) = true
    rw [alike_ints r s]
    rfl
/-! ### the steps out of each row -/
def StepsL (K : PySem.W.Frag) (H : Hp) (v : V) (ss : List (Mv × List Int)) : Prop := ∃ l vs, v = .ref l ∧ H l = some (.lst vs) ∧ Paired (StepV K H) vs ss
/-- all but dicts with tuples as keys stands -/
def NoT (H H' : Hp) : Prop := ∀ b o, H b = some o → (∀ kvs, o ≠ .dT kvs) → H' b = some o
theorem NoT.of_same {H H' : Hp} (s : Same H H') : NoT H H' := fun b o e _ => s b o e
theorem NoT.upd {H : Hp} {a : Addr} {kvs : List (List Key × V)} {o : HO} (e : H a = some (.dT kvs)) : NoT H (upd H a o) := fun b u h n => by rw [upd_ne (ne_of h e (n kvs))]; exact h
theorem NoT.trans {H H1 H2 : Hp} (a : NoT H H1) (b : NoT H1 H2) : NoT H H2 := fun c o e n => b c o (a c o e n) n
theorem NoT.kpT {H H' : Hp} (s : NoT H H') : KpT H H' := fun b o e _ n _ => s b o e n
theorem StepsL.kp {K : PySem.W.Frag} {H H' : Hp} {v : V} {ss : List (Mv × List Int)} (h : StepsL K H v ss) (s : NoT H H') : StepsL K H' v ss := by
  obtain ⟨l, vs, e, h1, h2⟩ := h
  exact ⟨l, vs, e, s _ _ h1 (fun _ z => by cases z), par_map (fun _ _ h => s.kpT.step h) h2⟩
theorem moves_len {ts : List (Int × Int)} {rs : List (List Int)} {r : List Int} (h1 : ts.length ≤ 60) (h2 : rs.length ≤ 60) : (movesR ts rs r).length ≤ 120 := by
  unfold movesR
  have := List.length_filter_le (canR r) ts
  have e : (turns rs.length).length = rs.length := by
    unfold turns
    rw [List.length_map, List.length_range]
  rw [List.length_append, List.length_map, e]
  omega
def spLost (K : PySem.W.Frag) : Sp := fun vs H Q _ => ∃ (x : Addr) (y : V) (n : Nat) (ts : List (Int × Int)) (rs : List (List Int)) (r : List Int), vs = [.ref x, y] ∧ YObj K H x n ts rs ∧ YP n ts rs ∧ n ≤ 5 ∧ RowV H y r ∧ FilOk n r ∧
  ∀ v H', (v = .non ∨ ∃ a xs, v = .ref a ∧ H' a = some (.tup xs)) → Same H H' → Q v H'
/-- a block within a block, with no names of the outer one -/
theorem blkOk_in {N : List Str} {sc sc0 scope : Scope} {own : List (Str × Nat)} (h : blkC N sc0 scope own = true) (nf : (scope.names.all fun y => match y.2 with | .free => false | _ => true) = true) : BlkOk N sc scope own := by
  obtain ⟨h1, h2, h3, h4, h5⟩ := blkOk_by h
  refine ⟨h1, h2, h3, fun y hy e => ?_, h5⟩
  have := List.all_eq_true.mp nf y hy
  rw [e] at this
  cases this
theorem pi_listK {X : Cx} {K : PySem.W.Frag} {tg l : Expr} {tl : TE} (eK : X.K = K) (hl : PE X l tl) : PI X tg l (iList K tl) := by
  subst eK
  exact pi_list hl
theorem op_neDK {X : Cx} {K : PySem.W.Frag} (eK : X.K = K) (hu : X.A.units + 64 < cLine) : OpR X (compareOp .NotEq) (rNeD K) := by
  subst eK
  exact op_neD hu
theorem sl_tupK {X : Cx} {K : PySem.W.Frag} (eK : X.K = K) : SlR X (rSlT K) := by
  subst eK
  exact sl_tup
theorem yes_if {σ : L2.St} {H : Hp} {A B : Hp → Prop} (h : A H) : tYes σ H (fun b H3 => if b = true then A H3 else B H3) := by
  unfold tYes
  exact iteT h
theorem RowsL.kp2 {H H' : Hp} {v : V} {zs : List (List Int)} (h : RowsL H v zs) (s1 : ∀ b xs, H b = some (.lst xs) → H' b = some (.lst xs)) (s2 : TK H H') : RowsL H' v zs := by
  obtain ⟨l, vs, e, h1, h2⟩ := h
  exact ⟨l, vs, e, s1 _ _ h1, par_map (fun _ _ h => h.kp s2) h2⟩
theorem but_frz {d : Addr} {H : Hp} {od : Obj} {u o : HO} (e : H d = some (.frz od u)) {b : Addr} {xs : HO} (h : H b = some xs) (n : ∀ o u, xs ≠ .frz o u) : (upd H d o) b = some xs := by
  rw [upd_ne (ne_of h e (n _ _))]
  exact h
theorem fst_map {β : Type} {g : List Int → β} (L : List (List Int)) : (L.map fun z => (z, g z)).map (·.1) = L := by
  rw [List.map_map, show ((fun p : List Int × β => p.1) ∘ fun z => (z, g z)) = id from rfl, List.map_id]
theorem new_at {L : List (List Int)} {i : Nat} {z : List Int} (nd : L.Nodup) (ez : L[i]? = some z) : z ∉ L.take i := fun h => by
  rw [← List.take_append_drop i L] at nd
  have := (List.nodup_append.mp nd).2.2 z h z (by
    rw [List.mem_iff_getElem?]
    exact ⟨0, by rw [List.getElem?_drop, Nat.add_zero]; exact ez⟩)
  exact this rfl
theorem but_same {d : Addr} {H H' : Hp} {o u : HO} (b : But1 d H H') (e : H d = some o) : Same H (upd H' d o) := fun c o' e' => by
  by_cases z : c = d
  · rw [z, e] at e'
    rw [z, upd_same]
    exact e'
  · rw [upd_ne z]
    exact b c o' z e'
theorem But1.frz {d : Addr} {H : Hp} {o : HO} : But1 d H (upd H d o) := fun b o n e => by rw [upd_ne n]; exact e
theorem But1.no {d : Addr} {H H' : Hp} {kvs : List (List Key × V)} (b : But1 d H H') (e : H d = some (.dT kvs)) : NoT H H' := fun c o h n => b c o (fun z => by rw [z, e] at h; cases h; exact n kvs rfl) h
theorem cut_mv (m : Mv) : ∃ zs : List Int, cutV m.vs (some 1) none = zs.map V.int ∧ ¬ (HT.sIx m.vs.length 0 (some 1) = 0 ∧ HT.sIx m.vs.length m.vs.length none = m.vs.length) := by
  cases m with
  | slide a b => exact ⟨[a, b], rfl, fun h => absurd h.1 (show ¬ HT.sIx 3 0 (some 1) = 0 by decide)⟩
  | turn k => exact ⟨[k], rfl, fun h => absurd h.1 (show ¬ HT.sIx 2 0 (some 1) = 0 by decide)⟩
theorem dpAll_rows {K : PySem.W.Frag} {H : Hp} {vs : List V} {zs : List (List Int)} (h : Paired (RowV H) vs zs) : DpAll K H vs (zs.map fun z => .tuple (z.map PyData.int)) := by
  induction h with
  | nil => exact .nil
  | cons a _ ih => exact .cons a.dp ih
theorem alike_rows (zs : List (List Int)) : PySem.W.AlikeAll (zs.map fun z => .tuple (z.map PyData.int)) := by
  refine ⟨fun x hx y hy => ?_, fun x hx => ?_⟩
  · obtain ⟨a, _, rfl⟩ := List.mem_map.mp hx
    obtain ⟨b, _, rfl⟩ := List.mem_map.mp hy
    exact alike_ints a b
  · obtain ⟨a, _, rfl⟩ := List.mem_map.mp hx
    intro z
    cases z
theorem depth_rows : ∀ zs : List (List Int), PyData.depthAll (zs.map fun z => .tuple (z.map PyData.int)) ≤ 2
  | [] => Nat.zero_le _
  | z :: zs => by
    show max (PyData.depthAll (z.map PyData.int) + 1) (PyData.depthAll (zs.map fun z => .tuple (z.map PyData.int))) ≤ 2
    have := depth_rows zs
    have := depth_ints z
    omega
section
variable {P : Program} {w : World} {K : PySem.W.Frag} {mg : Str → Option Value} {base : Heap} {fLot fSt fPar : Addr}
theorem scLost : FnScope NLost ["yard", "row"] (defScope sLost) := ⟨rfl, rfl, rfl, by decide +kernel, rfl, by decide +kernel, by decide +kernel⟩
theorem ok_lost {f : Addr} {fd fdL fdS fdP : FuncData} (F : Fun K "lost_tie" "lost_tie" sLost f fd) (gM : mg "min" = none)
    (gL : mg "lot_of" = some (.ref fLot)) (GL : FnOk P w K mg base CX0 8 fLot fdL ["yard", "row"] (spLot K)) (FL : Fun K "lot_of" "lot_of" sLot fLot fdL) (bL : Binds K fdL ["yard", "row"] [])
    (gS : mg "steps_at" = some (.ref fSt)) (GS : FnOk P w K mg base CX0 6 fSt fdS ["yard", "row"] (spSteps K)) (FS : Fun K "steps_at" "steps_at" sSteps fSt fdS) (bS : Binds K fdS ["yard", "row"] [])
    (gP : mg "parts_of" = some (.ref fPar)) (GP : FnOk P w K mg base CX0 2 fPar fdP ["ahead"] (spParts K)) (FP : Fun K "parts_of" "parts_of" sParts fPar fdP) (bP : Binds K fdP ["ahead"] []) :
    FnOk P w K mg base CX0 9 f fd ["yard", "row"] (spLost K) := by
  refine F.ok scLost (fun vs H Q E h => ?_) (fun cdv A outer s H vs Q E hr h => ?_)
  · obtain ⟨x, y, n, ts, rs, r, rfl, _⟩ := h
    rfl
  · obtain ⟨x, y, n, ts, rs, r, rfl, hy, yp, n5, hrow, ok, k⟩ := h
    have hr6 : Room 6 _ := hr.mono (by decide)
    have hr2 : Room 2 _ := hr.mono (by decide)
    have hu := hu_of hr
    have hu64 := hr.units
    refine ⟨_, pss_cons (ps_set (i := 2) scLost.nd rfl (Or.inr rfl) (pe_dcT (own := [("now", 5)]) (g := gName 5) (tt := tYes) hu rfl scLost.nd (pi_tup (pe_call GL hr (by rfl) gL FL.kp bL .nil pass0 (pa_cons (pv 0) (pa_cons (pv 1) pa_nil)))) (blkOk_by (N := NLost) (sc := defScope sLost) (by decide +kernel))
        (fun _ _ _ _ _ => pg_name (i := 5) scLost.nd rfl (Or.inl rfl)) (fun _ _ _ _ _ => pts_nil) (fun _ _ _ _ _ => pv 5) (fun _ _ _ _ _ => pe_call GS hr6 (by rfl) gS FS.kp bS .nil pass0 (pa_cons (pv 0) (pa_cons (pv 5) pa_nil)))))
      (pss_cons (ps_set (i := 3) scLost.nd rfl (Or.inr rfl) (pe_call GP hr2 (by rfl) gP FP.kp bP .nil pass0 (pa_cons (pe_lock (pe_dcT (own := [("now", 5)]) (g := gName 5) (tt := tYes) hu rfl scLost.nd (pi_keys (pv 2)) (blkOk_by (N := NLost) (sc := defScope sLost) (by decide +kernel))
        (fun _ _ _ _ _ => pg_name (i := 5) scLost.nd rfl (Or.inl rfl)) (fun _ _ _ _ _ => pts_nil) (fun _ _ _ _ _ => pv 5) (fun _ _ _ _ _ => pe_lc (own := [("_", 6), ("behind", 7)]) (g := gTup K 2 (gCons (gName 6) (gCons (gName 7) gNil))) (tt := tYes) rfl scLost.nd (pi_listK (K := K) rfl (pe_dget hu (pv 2) (pv 5) (fun _ _ => rfl))) (blkOk_in (N := NLost) (sc0 := defScope sLost) (scope := ⟨.function, [(".0", .local), ("_", .local), ("behind", .local)], false, false, []⟩) (own := [("_", 6), ("behind", 7)]) (by decide +kernel) (by decide +kernel))
          (fun _ _ _ _ _ => pgT (K := K) (n := 2) rfl rfl (pgs_cons (pg_name (i := 6) scLost.nd rfl (Or.inl rfl)) (pgs_cons (pg_name (i := 7) scLost.nd rfl (Or.inl rfl)) pgs_nil)) rfl rfl) (fun _ _ _ _ _ => pts_nil) (fun _ _ _ _ _ => pv 7)))) pa_nil)))
      (pss_cons (ps_lock (ps_setLc2 (own := [("now", 5), ("move", 8), ("behind", 7)]) (vs1 := [8, 7]) (i := 4) (g := gName 5) (tt := tYes) (g1 := gTup K 2 (gCons (gName 8) (gCons (gName 7) gNil))) rfl scLost.nd rfl rfl (sw_true rfl rfl rfl (by decide +kernel)) (pi_keys (pv 2)) (blkOk_by (N := NLost) (sc := defScope sLost) (by decide +kernel)) (by decide)
        (fun _ _ _ _ _ => pg_name (i := 5) scLost.nd rfl (Or.inl rfl)) (fun _ _ _ _ _ => pts_nil)
        (fun _ _ _ _ _ => pi_listK (K := K) rfl (pe_dget hu (pv 2) (pv 5) (fun _ _ => rfl)))
        (fun _ _ _ _ _ => pgT (K := K) (n := 2) rfl rfl (pgs_cons (pg_name (i := 8) scLost.nd rfl (Or.inl rfl)) (pgs_cons (pg_name (i := 7) scLost.nd rfl (Or.inl rfl)) pgs_nil)) rfl rfl)
        (fun _ _ _ _ _ => pts_one (pt_cmpR (op_neDK (K := K) rfl hu64) (pe_dget hu (pv 3) (pv 7) (fun _ _ => rfl)) (pe_dget hu (pv 3) (pv 5) (fun _ _ => rfl)) (by rfl)))
        (fun _ _ _ _ _ => pe_slice (sl_tupK (K := K) rfl) (pv 8) (po_some pe_int) po_none)))
      (pss_one (ps_ret (pe_callBK (call_minD rfl hu64) (by rfl) gM PyProof.Rows.boot_min (pa_cons (pv 4) pa_nil) (pk_cons pe_non pk_nil)))))), ?_⟩
    have n60 := yp.n60
    refine ⟨_, rfl, _, rfl, x, y, n, ts, rs, r, rfl, hy, yp, by omega, hrow, ok, fun t ys L H1 et pL hL s1 => ⟨t, rfl, ⟨ys, SqT.of et⟩, fun D nD => ?_⟩⟩
    have lL := Paired.length pL
    have l32 : L.length ≤ 32 := Nat.le_trans (hL.len ok) (Nat.pow_le_pow_right (by decide : 0 < 2) n5)
    have filL' := hL.fil ok
    have hz : sizeLine = 2 ^ 24 := rfl
    refine dcT_it (walk_tup (K := K) (a := t) (xs := ys)) (fun i H' => ∃ kvs, H' D = some (.dT kvs) ∧ KVs (StepsL K H') kvs ((L.take i).map fun z => (z, stepsR n ts rs z)) ∧ Same H1 H') ⟨[], upd_same, .nil, Same.new nD⟩ (fun i H' _ ⟨_, _, _, s⟩ => SqT.of (s _ _ et)) ?_ ?_
    · rintro i v H2 H2' hi ⟨kvs, eD, hk, s2⟩ ⟨rfl, hx⟩
      obtain ⟨z, ez, b, rfl, hb⟩ := par_get pL hx
      have hb2 := s2 _ _ hb
      refine ⟨rfl, ?_⟩
      refine yes_if ?_
      refine ⟨_, rfl, _, rfl, _, rfl, x, .ref b, n, ts, rs, z, rfl, hy.kp (.of_same (s1.trans s2)), yp, ⟨b, rfl, .inr (SqT.of hb2)⟩, filL' z (List.mem_of_getElem? ez), fun l ss H3 nl el pst s3 => ?_⟩
      have lk := hk.len
      rw [List.length_map, List.length_take] at lk
      refine ⟨kvs, keyR z, b, rfl, by rw [keyR_kV]; exact s3 _ _ hb2, s3 _ _ eD, by omega, _, upd_same, ?_, Same.upd_new (s2.trans s3) nD⟩
      have hn : z ∉ ((L.take i).map fun z => (z, stepsR n ts rs z)).map (·.1) := by
        rw [fst_map]
        exact new_at hL.nodup ez
      have no : NoT H2' (upd H3 D (.dT (putK kvs (keyR z) (.ref l)))) := (NoT.of_same s3).trans (.upd (s3 _ _ eD))
      rw [take_next ez, List.map_append]
      refine KVs.snoc (hk.mono fun v z h => h.kp no) hn ⟨l, ss, rfl, ?_, par_map (fun _ _ h => (NoT.upd (s3 _ _ eD)).kpT.step h) pst⟩
      rw [upd_ne (ne_of el (s3 _ _ eD) fun z => by cases z)]
      exact el
    · rintro H2 ⟨kvs, eD, hk, s2⟩
      rw [lL, List.take_length] at hk
      have ndL := hL.nodup
      have nD0 : H D = none := Same.none s1 nD
      have s12 := s1.trans s2
      refine gset_go (σ' := [some (.ref x), some y, some (.ref D), none, none, none, none, none, none]) rfl ?_
      dsimp only
      refine ⟨D, .dT kvs, eD, trivial, fun od => ?_⟩
      refine ⟨_, rfl, D, od, rfl, .inr ⟨kvs, upd_same, fun D2 nD2 => ?_⟩⟩
      have nDD : D ≠ D2 := ne_of_none upd_same nD2
      have nD2' : H2 D2 = none := by rw [upd_ne (Ne.symm nDD)] at nD2; exact nD2
      refine dcT_it walk_keysT (fun i H' => ∃ k2, H' D2 = some (.dT k2) ∧ KVs (RowsL H') k2 ((L.take i).map fun z => (z, (stepsR n ts rs z).map (·.2))) ∧ H' D = some (.frz od (.dT kvs)) ∧ But1 D H2 H')
        ⟨[], upd_same, .nil, by rw [upd_ne nDD]; exact upd_same, But1.frz.new nD2'⟩ (fun i H' _ ⟨_, _, _, e, _⟩ => e) ?_ ?_
      · rintro i v H3 H3' hi ⟨k2, e2, hk2, ed, b2⟩ ⟨rfl, key, val, q, hkv, rfl, eq⟩
        obtain ⟨pr, epr, hkey, hval⟩ := par_get hk hkv
        obtain ⟨z, ez, rfl⟩ : ∃ z, L[i]? = some z ∧ (z, stepsR n ts rs z) = pr := by
          rw [List.getElem?_map] at epr
          cases e : L[i]? with
          | none => rw [e] at epr; cases epr
          | some z => rw [e] at epr; exact ⟨z, rfl, Option.some.inj epr⟩
        obtain rfl : key = keyR z := hkey
        have mz := List.mem_of_getElem? ez
        obtain ⟨v', hv', l, ss, rfl, hl, ps⟩ := hk.at (by rw [fst_map]; exact ndL) (List.mem_map.mpr ⟨z, mz, rfl⟩)
        have no3 := b2.no eD
        have hl3 := no3 _ _ hl (fun _ z => by cases z)
        have ps3 := par_map (fun _ _ h => no3.kpT.step h) ps
        have lss := Paired.length ps
        have dg : (stepsR n ts rs z).length ≤ 120 := by
          unfold stepsR
          rw [List.length_map]
          exact moves_len yp.tl yp.rl
        refine ⟨rfl, ?_⟩
        refine yes_if ?_
        refine ⟨_, rfl, _, rfl, _, rfl, D, _, rfl, .inr ⟨kvs, keyR z, q, .inr ⟨od, ed⟩, rfl, eq, hv'.symm⟩, l, rfl, ⟨ss, SqL.of hl3⟩, fun D3 nD3 => ?_⟩
        refine lc_it (walk_list (xs := ss)) (fun j H' => (∃ acc, H' D3 = some (.lst acc) ∧ Paired (RowV H') acc (((stepsR n ts rs z).take j).map (·.2))) ∧ Same H3' H') ⟨⟨[], upd_same, .nil⟩, Same.new nD3⟩ (fun j H' _ h => SqL.of (h.2 _ _ hl3)) ?_ ?_
        · rintro j x' Ha Hb hj ⟨⟨acc, eA, pa⟩, sa⟩ ⟨rfl, hx⟩
          obtain ⟨st, est, t', m, b, rfl, ht', hm, hb⟩ := par_get ps3 hx
          refine ⟨t', [m, b], rfl, SqT.of (sa _ _ ht'), rfl, _, _, rfl, _, _, rfl, rfl, rfl, ?_⟩
          refine yes_if ?_
          have la := Paired.length pa
          rw [List.length_map, List.length_take] at la
          have tk3 : TK Hb (upd Hb D3 (.lst (acc ++ [b]))) := .upd eA fun xs z => by cases z
          refine ⟨_, rfl, acc, eA, by omega, ⟨_, upd_same, ?_⟩, Same.upd_new sa nD3⟩
          rw [take_next est, List.map_append]
          exact par_snoc (par_map (fun _ _ h => h.kp tk3) pa) ((hb.kp (TK.of_same sa)).kp tk3)
        · rintro Ha ⟨⟨acc, eA, pa⟩, sa⟩
          rw [lss, List.take_length] at pa
          have lk2 := hk2.len
          rw [List.length_map, List.length_take] at lk2
          have no : NoT H3' (upd Ha D2 (.dT (putK k2 (keyR z) (.ref D3)))) := (NoT.of_same sa).trans (.upd (sa _ _ e2))
          refine ⟨k2, keyR z, q, rfl, sa _ _ eq, sa _ _ e2, by omega, _, upd_same, ?_, by rw [upd_ne nDD]; exact sa _ _ ed, (b2.same sa).new nD2'⟩
          rw [take_next ez, List.map_append]
          refine KVs.snoc (hk2.mono fun v z h => h.kp no) (by rw [fst_map]; exact new_at ndL ez) ⟨D3, acc, rfl, ?_, par_map (fun _ _ h => (NoT.upd (sa _ _ e2)).kpT.row h) pa⟩
          rw [upd_ne (ne_of eA (sa _ _ e2) fun z => by cases z)]
          exact eA
      · rintro H3 ⟨k2, e2, hk2, ed, b2⟩
        rw [hk.len, List.length_map, List.take_length] at hk2
        have s3 : Same H2 (upd H3 D (.dT kvs)) := but_same (u := .dT kvs) b2 eD
        refine ⟨ed, D2, k2, L.map fun z => (z, (stepsR n ts rs z).map (·.2)), rfl, by rw [upd_ne (Ne.symm nDD)]; exact e2, hk2.mono fun v z h => h.kp2 (fun b xs e => but_frz ed e (fun _ _ z => by cases z)) (fun b xs e => but_frz ed e (fun _ _ z => by cases z)), ?_, ?_⟩
        · refine ⟨by rw [fst_map]; exact ndL, fun p hp z hz => ?_, by rw [List.length_map]; omega, fun p hp => ?_⟩
          · obtain ⟨w, hw, rfl⟩ := List.mem_map.mp hp
            obtain ⟨st, hs, rfl⟩ := List.mem_map.mp hz
            rw [fst_map]
            exact hL.closed w hw st hs
          · obtain ⟨w, hw, rfl⟩ := List.mem_map.mp hp
            show ((stepsR n ts rs w).map (·.2)).length ≤ 200
            unfold stepsR
            rw [List.length_map, List.length_map]
            exact Nat.le_trans (moves_len yp.tl yp.rl) (by decide)
        · intro dp pk M H5 ndp edp hM ndM allM s5
          rw [fst_map] at allM
          have sH5 : Same H2 H5 := s3.trans s5
          refine gset_go (σ' := [some (.ref x), some y, some (.ref D), some (.ref dp), none, none, none, none, none]) rfl ?_
          dsimp only
          have eD5 := sH5 _ _ eD
          have hk5 := hk.mono fun v z h => h.kp (NoT.of_same sH5)
          have sH15 : Same H H5 := s12.trans sH5
          clear hk2 b2 s3 s5
          have lkv := hk5.len
          rw [List.length_map] at lkv
          refine ⟨D, .dT kvs, eD5, trivial, fun od3 => ?_⟩
          refine ⟨_, rfl, D, od3, rfl, .inr ⟨kvs, upd_same, fun D4 nD4 => ?_⟩⟩
          have nDD4 : D ≠ D4 := ne_of_none upd_same nD4
          have nD4' : H5 D4 = none := by rw [upd_ne (Ne.symm nDD4)] at nD4; exact nD4
          have dpD : dp ≠ D := fun z => by rw [z, upd_same] at ndp; cases ndp
          refine walk_w walk_keysT (fun i H' => (∃ acc zs, H' D4 = some (.lst acc) ∧ Paired (RowV H') acc zs ∧ acc.length ≤ 120 * i) ∧ H' D = some (.frz od3 (.dT kvs)) ∧ But1 D H5 H')
            ⟨⟨[], [], upd_same, .nil, Nat.zero_le _⟩, by rw [upd_ne nDD4]; exact upd_same, But1.frz.new nD4'⟩ (fun i H' _ ⟨_, e, _⟩ => e) ?_ ?_
          · rintro i v H6 H6' hi ⟨⟨acc, zs, ea, pa, la⟩, ed, b6⟩ ⟨rfl, key, val, q, hkv, rfl, eq⟩
            obtain ⟨pr, epr, hkey, hval⟩ := par_get hk5 hkv
            obtain ⟨z, ez, rfl⟩ : ∃ z, L[i]? = some z ∧ (z, stepsR n ts rs z) = pr := by
              rw [List.getElem?_map] at epr
              cases e : L[i]? with
              | none => rw [e] at epr; cases epr
              | some z => rw [e] at epr; exact ⟨z, rfl, Option.some.inj epr⟩
            obtain rfl : key = keyR z := hkey
            have mz := List.mem_of_getElem? ez
            obtain ⟨v', hv', l, ss, rfl, hl, ps⟩ := hk5.at (by rw [fst_map]; exact ndL) (List.mem_map.mpr ⟨z, mz, rfl⟩)
            have no6 := b6.no eD5
            have hl6 := no6 _ _ hl (fun _ z => by cases z)
            have ps6 := par_map (fun _ _ h => no6.kpT.step h) ps
            have lss : ss.length = (stepsR n ts rs z).length := Paired.length ps
            have nlD : l ≠ D4 := ne_of_none hl nD4'
            have dg : (stepsR n ts rs z).length ≤ 120 := by
              unfold stepsR
              rw [List.length_map]
              exact moves_len yp.tl yp.rl
            refine ⟨rfl, yes_if ?_⟩
            refine ⟨_, rfl, _, rfl, D, _, rfl, .inr ⟨kvs, keyR z, q, .inr ⟨od3, ed⟩, rfl, eq, hv'.symm⟩, l, rfl, ⟨ss, SqL.of hl6⟩, ?_⟩
            refine walk_w (walk_list (xs := ss)) (fun j H' => (∃ acc zs, H' D4 = some (.lst acc) ∧ Paired (RowV H') acc zs ∧ acc.length ≤ 120 * i + j) ∧ H' D = some (.frz od3 (.dT kvs)) ∧ But1 D H5 H' ∧ KpT H6' H' ∧ H' l = some (.lst ss))
              ⟨⟨acc, zs, ea, pa, la⟩, ed, b6, .of_same (Same.refl' _), hl6⟩ (fun j H' _ h => SqL.of h.2.2.2.2) ?_ ?_
            · rintro j x' H7 H7' hj ⟨⟨acc, zs, ea, pa, la⟩, ed, b7, no7, el7⟩ ⟨rfl, hx⟩
              obtain ⟨st, est, t', m, b, rfl, ht', hm, hb⟩ := par_get ps6 hx
              have mst := hL.closed z mz st (List.mem_of_getElem? est)
              obtain ⟨bm, rfl, hbm⟩ := no7.mv hm
              have hb7 := no7.row hb
              obtain ⟨bb, rfl, hbb⟩ := id hb7
              have edp7 := b7 _ _ dpD edp
              have tk57 : TK H5 H7' := fun c xs e => b7 c _ (ne_of e eD5 fun z => by cases z) e
              have hM7 : KVs (RowV H7') pk M := hM.mono fun v z h => h.kp tk57
              obtain ⟨p1, hp1, e1⟩ := List.mem_map.mp (allM st.2 mst)
              obtain ⟨p2, hp2, e2⟩ := List.mem_map.mp (allM z mz)
              obtain ⟨v1, hv1, r1⟩ := hM7.at ndM hp1
              obtain ⟨v2, hv2, r2⟩ := hM7.at ndM hp2
              rw [e1] at hv1
              rw [e2] at hv2
              have eq7 := no7.tup eq
              refine ⟨t', _, rfl, SqT.of (no7.tup ht'), rfl, _, _, rfl, _, _, rfl, rfl, rfl, ?_⟩
              refine ⟨_, rfl, _, rfl, dp, _, rfl, .inr ⟨pk, keyR st.2, bb, .inl edp7, rfl, by rw [keyR_kV]; exact hbb, hv1.symm⟩, ?_⟩
              refine ⟨_, rfl, _, rfl, dp, _, rfl, .inr ⟨pk, keyR z, q, .inl edp7, rfl, eq7, hv2.symm⟩, _, _, r1.dp, r2.dp, row_shaped _, row_shaped _, _, rfl, ?_⟩
              dsimp only
              split
              · obtain ⟨cs, ecs, ncs⟩ := cut_mv st.1
                refine ⟨_, rfl, 1, rfl, bm, _, rfl, hbm, ncs, fun c nc => ?_⟩
                rw [ecs]
                have sc := Same.new (o := .tup (cs.map V.int)) nc
                have tkc : TK H7' (upd (upd H7' c (.tup (cs.map V.int))) D4 (.lst (acc ++ [V.ref c]))) := (TK.of_same sc).trans (.upd (sc _ _ ea) fun xs z => by cases z)
                refine ⟨acc, sc _ _ ea, by omega, ⟨_, zs ++ [cs], upd_same, par_snoc (par_map (fun _ _ h => h.kp tkc) pa) ⟨c, rfl, ?_⟩, by rw [List.length_append, List.length_singleton]; omega⟩, by rw [upd_ne nDD4]; exact sc _ _ ed, (b7.same sc).new nD4', (no7.trans (.of_same sc)).trans (.lst (sc _ _ ea)), by rw [upd_ne nlD]; exact sc _ _ el7⟩
                · rw [upd_ne (ne_of upd_same (sc _ _ ea) fun z => by cases z)]
                  exact upd_same
              · exact ⟨⟨acc, zs, ea, pa, by omega⟩, ed, b7, no7, el7⟩
            · rintro H7 ⟨⟨acc, zs, ea, pa, la⟩, ed, b7, no7, el7⟩
              exact ⟨⟨acc, zs, ea, pa, by omega⟩, ed, b7⟩
          · rintro H6 ⟨⟨acc, zs, ea, pa, la⟩, ed, b6⟩
            refine gset_go (σ' := [some (.ref x), some y, some (.ref D), some (.ref dp), some (.ref D4), none, none, none, none]) rfl ?_
            dsimp only
            have s6 : Same H5 (upd H6 D (.dT kvs)) := but_same (u := .dT kvs) b6 eD5
            have sF := sH15.trans s6
            have ea6 : (upd H6 D (.dT kvs)) D4 = some (.lst acc) := but_frz ed ea fun _ _ z => by cases z
            have pa6 : Paired (RowV (upd H6 D (.dT kvs))) acc zs := par_map (fun _ _ h => h.kp fun b xs e => but_frz ed e (fun _ _ z => by cases z)) pa
            refine ⟨ed, ?_⟩
            refine ⟨_, rfl, D4, acc, _, .non, rfl, rfl, SqL.of ea6, dpAll_rows pa6, alike_rows zs, Nat.le_trans (depth_rows zs) (by decide), fun _ => k _ _ (.inl rfl) sF, fun i v hv => ?_⟩
            obtain ⟨z, _, b, rfl, hb⟩ := par_get pa6 hv
            exact k _ _ (.inr ⟨b, _, rfl, hb⟩) sF
end
end Y
set_option Elab.async false
set_option linter.all false
set_option maxRecDepth 100000
set_option maxHeartbeats 4000000
namespace Y
open PySem PySem.Spec PyProof.Rows L2
/-- two promises of one def -/
def spOr (a b : Sp) : Sp := fun vs H Q E => a vs H Q E ∨ b vs H Q E
theorem FnOk.orX {P : Program} {w : World} {K : PySem.W.Frag} {mg : Str → Option Value} {base : Heap} {k : Nat} {f : Addr} {fd : FuncData} {ps : List Str} {a b : Sp} (A : FnOk P w K mg base CX0 k f fd ps a) (B : FnOk P w K mg base (L2.CX P w) k f fd ps b) :
    FnOk P w K mg base (L2.CX P w) k f fd ps (spOr a b) := by
  refine ⟨fun vs H Q E h => ?_, fun Ar outer s H args us vs Q E hr e0 hb r h => ?_⟩
  · rcases h with h | h
    · exact A.len _ _ _ _ h
    · exact B.len _ _ _ _ h
  · rcases h with h | h
    · refine codeAny_mono (A.run Ar outer s H args us vs Q E hr e0 hb r h) fun res s' hq => ?_
      match res, hq with
      | .error e, hq => exact (show False from hq).elim
      | .ok (.ret u), hq => exact hq
      | .ok .next, hq => exact hq.elim
      | .ok .brk, hq => exact hq.elim
      | .ok .cont, hq => exact hq.elim
    · exact B.run Ar outer s H args us vs Q E hr e0 hb r h
/-! ### wrong rings -/
structure RingsBad (n : Nat) (rs : List (List Int)) (d : PyData) : Prop where
  ok : ∀ r ∈ rs, RingOk n r
  l60 : rs.length ≤ 60
  sh : short63 d
  bad : unB n d = true → ∀ es, rowOf d = some es → es.length < 3
def spCRX (K : PySem.W.Frag) (CR CG : Addr) : Sp := fun vs H Q E => ∃ (n : Nat) (y : V) (d : PyData), vs = [.int (n : Int), y] ∧ Dq K H d y ∧ n ≤ 60 ∧
  ((rowOf d = none ∧ RaisedF CR [("row", y)] H E) ∨ ∃ (rs : List (List Int)) (d0 : PyData) (rest : List PyData), rowOf d = some (rs.map rowD ++ d0 :: rest) ∧ RingsBad n rs d0 ∧ RaisedF CG [("index", .int (rs.length : Nat))] H E)
theorem nums_row (r : List Int) : numsOf (r.map PyData.int) = r := by
  induction r with
  | nil => rfl
  | cons a r ih =>
    show a :: numsOf (r.map PyData.int) = _
    rw [ih]
theorem unB_row {n : Nat} {r : List Int} (h : ∀ z ∈ r, 0 ≤ z ∧ z < n) (nd : r.Nodup) : unB n (rowD r) = true := by
  show ((r.map PyData.int).all (belowB n) && decide (numsOf (r.map PyData.int)).Nodup) = true
  rw [nums_row, decide_eq_true nd, Bool.and_true, List.all_map, List.all_eq_true]
  intro z hz
  obtain ⟨h0, h1⟩ := h z hz
  show (decide (0 ≤ z) && decide (z < n)) = true
  rw [decide_eq_true h0, decide_eq_true h1]
  rfl
theorem dq_row {K : PySem.W.Frag} {H : Hp} {r : List Int} {v : V} (h : Dq K H (rowD r) v) : ∃ b, v = .ref b ∧ SqT K H b (r.map V.int) := by
  cases h with
  | tup hs hd => exact ⟨_, rfl, by rw [dqs_ints hd] at hs; exact hs⟩
section
variable {P : Program} {w : World} {K : PySem.W.Frag} {mg : Str → Option Value} {base : Heap} {fInt fRow fUn fCnt fFil fCT fCR CR CT CG CN CM fIR fIT fIG fIN : Addr}
theorem ok_crX {f : Addr} {fd fdR fdU fdIR fdIG : FuncData} (F : Fun K "checked_rings" "checked_rings" sCRings f fd) (T : TUn K mg fInt fRow fUn fCnt) (FR : Fun K "is_row" "is_row" sIsRow fRow fdR) (bR : Binds K fdR ["value"] [])
    (GU : FnOk P w K mg base CX0 3 fUn fdU ["many", "value"] (spUnlikeD K)) (FU : Fun K "are_unlike_numbers" "are_unlike_numbers" sUnlike fUn fdU) (bU : Binds K fdU ["many", "value"] [])
    (XR : XE1 K mg "BadRow" "row" CR fIR) (GIR : FnOk P w K mg base CX0 1 fIR fdIR ["self", "row"] (spX1 CR "row")) (bIR : Binds K fdIR ["self", "row"] [])
    (XG : XE1 K mg "BadRing" "index" CG fIG) (GIG : FnOk P w K mg base CX0 1 fIG fdIG ["self", "index"] (spX1 CG "index")) (bIG : Binds K fdIG ["self", "index"] []) :
    FnOk P w K mg base (L2.CX P w) 4 f fd ["places", "rings"] (spCRX K CR CG) := by
  have GR : FnOk P w K mg base CX0 1 fRow fdR ["value"] (spIsRowD K) := ok_isRowD FR T.i
  refine F.okX scCRings (fun vs H Q E h => ?_) (fun cdv A outer s H vs Q E hr h => ?_)
  · obtain ⟨n, y, d, rfl, _⟩ := h
    rfl
  · obtain ⟨n, y, d, rfl, hd, n60, k⟩ := h
    have hr1 : Room 1 _ := hr.mono (by decide)
    have hr2 : Room 2 _ := hr.mono (by decide)
    refine ⟨_, pss_cons (ps_if (pt_not (pt_val (pe_call GR hr1 (by rfl) T.gRow FR.kp bR .nil pass0 (pa_cons (pv 1) pa_nil)))) (pss_one (ps_raise rfl (takes_of rfl rfl rfl rfl) (pmk_oex XR.xc.o XR.i XR.t GIR hr2 bIR .nil pass0 (by rfl) XR.g (pa_cons (pv 1) pa_nil)))) pss_nil)
      (pss_cons (ps_for (passes_of rfl) rfl (pi_enumV (by rfl) T.enum (pv 1)) (pg_tup rfl (pgs_cons (pg_name (i := 2) scCRings.nd rfl (Or.inl rfl)) (pgs_cons (pg_name (i := 3) scCRings.nd rfl (Or.inl rfl)) pgs_nil)))
        (pss_one (ps_if (PW.pt (pw_or (pt_not (pt_val (pe_call GU hr (by rfl) T.gUn FU.kp bU .nil pass0 (pa_cons (pv 0) (pa_cons (pv 3) pa_nil))))) (pw_or1 (pt_cmpR op_lt (pe_callB call_len_seq (by rfl) T.len PySem.boot_len (pa_cons (pv 3) pa_nil)) pe_int (nomark _)))))
          (pss_one (ps_raise rfl (takes_of rfl rfl rfl rfl) (pmk_oex XG.xc.o XG.i XG.t GIG hr2 bIG .nil pass0 (by rfl) XG.g (pa_cons (pv 2) pa_nil)))) pss_nil)))
      (pss_one ps_never)), ?_⟩
    refine ⟨_, rfl, _, d, rfl, hd, fun H1 s1 => ⟨_, rfl, ?_⟩⟩
    rcases k with ⟨hro, k⟩ | ⟨rs, d0, rest, hro, B, k⟩
    · rw [row_none hro]
      exact iteT ⟨_, rfl, mkF1 (k.same s1)⟩
    · rw [row_some hro]
      refine iteF ?_
      obtain ⟨z, zs, rfl, hz, hes⟩ := row_of2 hd hro
      have hlen := dqs_len hes
      refine ⟨z, zs, H, rfl, hz, .of_same s1, fun J G w1 hG => ?_⟩
      refine for_it w1 (fun i σ H' => ∃ (v2 v3 : Option V), σ = [some (.int (n : Int)), some (.ref z), v2, v3] ∧ Same H H' ∧ i ≤ rs.length) ⟨none, none, rfl, s1, Nat.zero_le _⟩ (fun i σ H' _ ⟨_, _, _, s, _⟩ => hG H' (.of_same s)) ?_ ?_
      · rintro i v σ H2 H3 hi ⟨v2, v3, rfl, s2, ile⟩ ⟨T1, u, y, rfl, nT, rfl, e1, e2⟩
        cases Option.some.inj e1
        have s3 := s2.trans (Same.new (o := .tup [.int (i : Nat), y]) nT)
        obtain ⟨e, ee, he⟩ := dqs_get hes e2
        have he3 := Dq.kp s3 he
        refine ⟨T1, _, rfl, SqT.of upd_same, rfl, _, _, rfl, _, _, rfl, rfl, ?_⟩
        rcases Nat.lt_or_ge i rs.length with hlt | hge
        · have et : e = rowD (rs[i]'hlt) := by
            rw [List.getElem?_append_left (by rw [List.length_map]; exact hlt), List.getElem?_map, List.getElem?_eq_getElem hlt] at ee
            exact (Option.some.inj ee).symm
          subst et
          obtain ⟨rn, rb, r3, rl⟩ := B.ok _ (List.getElem_mem hlt)
          generalize rs[i]'hlt = r at *
          obtain ⟨b, rfl, hb⟩ := dq_row he3
          refine ⟨_, rfl, _, rfl, n, _, rowD r, rfl, he3, (fun es h => by cases Option.some.inj h; rw [List.length_map]; omega), fun H4 s4 => ⟨_, rfl, ?_⟩⟩
          rw [unB_row rb rn]
          refine iteF ?_
          refine ⟨_, rfl, b, _, rfl, .inr (Same.seqT s4 hb), _, _, rfl, rfl, _, rfl, ?_⟩
          refine ifT (fun h => ?_) (fun _ => ⟨_, _, rfl, s3.trans s4, hlt⟩)
          have h' : (((r.map V.int).length : Nat) : Int) < 3 := of_decide_eq_true h
          rw [List.length_map] at h'
          omega
        · have ei : i = rs.length := by omega
          subst ei
          have e0 : e = d0 := by
            have q := get_mid (l := rs.map rowD) (r := rest) (x := d0)
            rw [List.length_map] at q
            exact Option.some.inj (ee.symm.trans q)
          subst e0
          refine ⟨_, rfl, _, rfl, n, _, e, rfl, he3, B.sh, fun H4 s4 => ⟨_, rfl, ?_⟩⟩
          have s34 := s3.trans s4
          cases hun : unB n e with
          | false => exact iteT ⟨_, rfl, mkF1 (k.same s34)⟩
          | true =>
            refine iteF ?_
            cases hroe : rowOf e with
            | none =>
              unfold unB at hun
              rw [hroe] at hun
              cases hun
            | some es =>
              have l3 := B.bad hun es hroe
              obtain ⟨b, xs, rfl, hb, hes2⟩ := row_of2 (Dq.kp s4 he3) hroe
              refine ⟨_, rfl, b, _, rfl, hb, _, _, rfl, rfl, _, rfl, ?_⟩
              refine ifT (fun _ => ⟨_, rfl, mkF1 (k.same s34)⟩) (fun h => ?_)
              have h' : ¬ ((xs.length : Nat) : Int) < 3 := of_decide_eq_false h
              rw [dqs_len hes2] at h'
              omega
      · rintro σ H2 ⟨v2, v3, rfl, s2, ile⟩
        rw [hlen, List.length_append, List.length_map, List.length_cons] at ile
        omega
/-! ### no yard -/
def spYX (K : PySem.W.Frag) (CR CT CG CN : Addr) : Sp := fun vs H Q E => ∃ (x C dx : Addr) (vn y z : V) (dn dt dr : PyData) (H0 : Hp), vs = [.ref x, vn, y, z] ∧ YCls K C ∧ H x = some (.ins C dx []) ∧ Same H0 H ∧ H0 x = none ∧ Dq K H0 dn vn ∧ Dq K H0 dt y ∧ Dq K H0 dr z ∧
  (((∀ n : Int, dn = .int n → n < 1) ∧ RaisedF CN [("number", vn), ("what", .str "places")] H0 E) ∨ ∃ n : Nat, dn = .int (n : Int) ∧ 1 ≤ n ∧ n ≤ 60 ∧
    ((rowOf dt = none ∧ RaisedF CR [("row", y)] H0 E) ∨ (∃ (ps : List (Int × Int)) (d0 : PyData) (rest : List PyData), rowOf dt = some (ps.map tieD ++ d0 :: rest) ∧ TiesBad n ps d0 ∧ ∀ v H1, Same H0 H1 → Dq K H1 d0 v → RaisedF CT [("tie", v)] H1 E) ∨
      ∃ ts : List (Int × Int), rowOf dt = some (ts.map tieD) ∧ TiesOk n ts ∧ ts.length ≤ 60 ∧
        ((rowOf dr = none ∧ RaisedF CR [("row", z)] H0 E) ∨ ∃ (rs : List (List Int)) (d0 : PyData) (rest : List PyData), rowOf dr = some (rs.map rowD ++ d0 :: rest) ∧ RingsBad n rs d0 ∧ RaisedF CG [("index", .int (rs.length : Nat))] H0 E)))
theorem dqs_rows {K : PySem.W.Frag} {H : Hp} : ∀ {ts : List (Int × Int)} {vs : List V}, Dqs K H (ts.map tieD) vs → Paired (RowAt K H) vs (ts.map row2)
  | [], _, h => by cases h; exact .nil
  | t :: ts, _, h => by
    cases h with
    | cons a r =>
      obtain ⟨b, rfl, hb⟩ := dq_tie a
      exact .cons ⟨b, rfl, .inr hb⟩ (dqs_rows r)
theorem ok_yX {f : Addr} {fd fdI fdT fdR fdIN : FuncData} (F : Fun K "__init__" "Yard.__init__" sYInit f fd) (T : TUn K mg fInt fRow fUn fCnt) (gCT : mg "checked_ties" = some (.ref fCT)) (gCR : mg "checked_rings" = some (.ref fCR)) (FI : Fun K "is_integer" "is_integer" sIsInt fInt fdI) (bI : Binds K fdI ["value"] [])
    (GT : FnOk P w K mg base (L2.CX P w) 4 fCT fdT ["places", "ties"] (spOr (spCTies K) (spCTX K CR CT))) (FT : Fun K "checked_ties" "checked_ties" sCTies fCT fdT) (bT : Binds K fdT ["places", "ties"] [])
    (GR : FnOk P w K mg base (L2.CX P w) 4 fCR fdR ["places", "rings"] (spCRX K CR CG)) (FR : Fun K "checked_rings" "checked_rings" sCRings fCR fdR) (bR : Binds K fdR ["places", "rings"] [])
    (XN : XE2 K mg "BadNumber" "what" "number" CN fIN) (GIN : FnOk P w K mg base CX0 1 fIN fdIN ["self", "what", "number"] (spX2 CN "what" "number")) (bIN : Binds K fdIN ["self", "what", "number"] []) :
    FnOk P w K mg base (L2.CX P w) 5 f fd ["self", "places", "ties", "rings"] (spYX K CR CT CG CN) := by
  have GI : FnOk P w K mg base CX0 1 fInt fdI ["value"] (spIsIntD K) := ok_isIntD FI T.i
  refine F.okX scYInit (fun vs H Q E h => ?_) (fun cdv A outer s H vs Q E hr h => ?_)
  · obtain ⟨x, C, dx, vn, y, z, dn, dt, dr, H0, rfl, _⟩ := h
    rfl
  · obtain ⟨x, C, dx, vn, y, z, dn, dt, dr, H0, rfl, yc, hx, s0, nx, hn, ht, hrr, k⟩ := h
    have hr1 : Room 1 _ := hr.mono (by decide)
    have hr2 : Room 2 _ := hr.mono (by decide)
    refine ⟨_, pss_cons (ps_if (PW.pt (pw_or (pt_not (pt_val (pe_call GI hr1 (by rfl) T.gInt FI.kp bI .nil pass0 (pa_cons (pv 1) pa_nil)))) (pw_or1 (pt_cmpR op_lt (pv 1) pe_int (nomark _)))))
        (pss_one (ps_raise rfl (takes_of rfl rfl rfl rfl) (pmk_oex XN.xc.o XN.i XN.t GIN hr2 bIN .nil pass0 (by rfl) XN.g (pa_cons pe_str (pa_cons (pv 1) pa_nil))))) pss_nil)
      (pss_cons (ps_fld (pv 0) (pv 1) rfl)
      (pss_cons (ps_fld (pv 0) (pe_call GT hr (by rfl) gCT FT.kp bT .nil (passes_call (takes_of rfl rfl rfl rfl) fun _ _ _ _ h => h) (pa_cons (pv 1) (pa_cons (pv 2) pa_nil))) rfl)
      (pss_one (ps_fld (pv 0) (pe_call GR hr (by rfl) gCR FR.kp bR .nil (passes_call (takes_of rfl rfl rfl rfl) fun _ _ _ _ h => h) (pa_cons (pv 1) (pa_cons (pv 3) pa_nil))) rfl)))), ?_⟩
    have hn' := Dq.kp s0 hn
    refine ⟨_, rfl, _, dn, rfl, hn', _, rfl, ?_⟩
    rcases k with ⟨hb, k⟩ | ⟨n, rfl, n1, n60, k⟩
    · have raise : RaisedF CN [("number", vn), ("what", .str "places")] H E := k.same s0
      cases hn with
      | int m =>
        refine iteF ?_
        have := hb m rfl
        refine ⟨_, rfl, _, _, rfl, rfl, _, rfl, ?_⟩
        refine ifT (fun _ => ?_) (fun h => ?_)
        · exact ⟨_, rfl, mk2 fun d H' s _ e => raise d H' s e⟩
        · have h' : ¬ m < 1 := of_decide_eq_false h
          omega
      | _ => exact iteT ⟨_, rfl, mk2 fun d H' s _ e => raise d H' s e⟩
    · cases hn
      refine iteF ?_
      refine ⟨_, rfl, _, _, rfl, rfl, _, rfl, ?_⟩
      refine ifT (fun h => ?_) (fun _ => ?_)
      · have h' : (n : Int) < 1 := of_decide_eq_true h
        omega
      refine ⟨_, rfl, _, rfl, x, C, dx, [], rfl, hx, yc.c, yc.p, (by show 0 < 1000; decide), ?_⟩
      have s1 : Same H0 (upd H x (.ins C dx (putF "places" (.int (n : Int)) []))) := Same.upd_new s0 nx
      have hx1 : (upd H x (.ins C dx (putF "places" (.int (n : Int)) []))) x = some (.ins C dx (putF "places" (.int (n : Int)) [])) := upd_same
      rcases k with ⟨hro, k⟩ | ⟨ps, d0, rest, hro, B, k⟩ | ⟨ts, hro, tok, t60, k⟩
      · exact ⟨_, rfl, _, rfl, .inr ⟨n, _, dt, rfl, Dq.kp s1 ht, n60, .inl ⟨hro, k.same s1⟩⟩⟩
      · refine ⟨_, rfl, _, rfl, .inr ⟨n, _, dt, rfl, Dq.kp s1 ht, n60, .inr ⟨ps, d0, rest, hro, B, fun v H1 s hv => k v H1 (s1.trans s) hv⟩⟩⟩
      · obtain ⟨a, zs, rfl, ha, hes⟩ := row_of2 ht hro
        refine ⟨_, rfl, _, rfl, .inl ⟨n, a, zs, ts, ts, rfl, Same.seqA s1 ha, dqs_rows (Dqs.kp s1 hes), .refl _, tok, n60, t60, fun t ys H2 et pt s2 => ?_⟩⟩
        have hx2 := s2 _ _ hx1
        refine ⟨_, rfl, x, C, dx, _, rfl, hx2, yc.c, yc.t, (by show 1 < 1000; decide), ?_⟩
        have s3 : Same H0 (upd H2 x (.ins C dx (putF "ties" (.ref t) (putF "places" (.int (n : Int)) [])))) := Same.upd_new (s1.trans s2) nx
        refine ⟨_, rfl, _, rfl, n, _, dr, rfl, Dq.kp s3 hrr, n60, ?_⟩
        rcases k with ⟨hro2, k⟩ | ⟨rs, d0, rest, hro2, B, k⟩
        · exact .inl ⟨hro2, k.same s3⟩
        · exact .inr ⟨rs, d0, rest, hro2, B, k.same s3⟩
end
end Y
set_option Elab.async false
set_option linter.all false
set_option maxRecDepth 100000
set_option maxHeartbeats 4000000
namespace Y
open PySem L2
abbrev sTaken : Stmt := top 999
/-! ### rows that are no stands, no filled rows; moves that are none -/
def spPlB (K : PySem.W.Frag) (CR : Addr) : Sp := fun vs H Q E => ∃ (x : Addr) (y l : V) (n : Nat) (ts : List (Int × Int)) (rs : List (List Int)) (d : PyData), vs = [.ref x, y, l] ∧ YObj K H x n ts rs ∧ Dq K H d y ∧ shortD d ∧ isStB n d = false ∧ RaisedF CR [("row", y)] H E
def spMAX (K : PySem.W.Frag) (CR : Addr) : Sp := fun vs H Q E => ∃ (x : Addr) (y : V) (n : Nat) (ts : List (Int × Int)) (rs : List (List Int)) (d : PyData), vs = [.ref x, y] ∧ YObj K H x n ts rs ∧ Dq K H d y ∧ short63 d ∧ filB n d = false ∧ RaisedF CR [("row", y)] H E
def spLedX (K : PySem.W.Frag) (CR CM : Addr) : Sp := fun vs H Q E => ∃ (x : Addr) (y l : V) (n : Nat) (ts : List (Int × Int)) (rs : List (List Int)) (d : PyData), vs = [.ref x, y, l] ∧ YObj K H x n ts rs ∧ Dq K H d y ∧ short63 d ∧
  ((filB n d = false ∧ RaisedF CR [("row", y)] H E) ∨
    (d = .tuple [] ∧ ∃ (la : Addr) (ds : List PyData) (i : Nat), l = .ref la ∧ DRow K H la ds ∧ n ≤ 60 ∧ (∀ r ∈ rs, RingOk n r) ∧ (∀ t ∈ ts, TieOk n t) ∧ runD ts rs 0 (List.replicate n 0) ds = .inl i ∧ ∀ H', Same H H' → RaisedI CM i H' E))
def spTkX (K : PySem.W.Frag) (CM : Addr) : Sp := fun vs H Q E => ∃ (x l : Addr) (n : Nat) (ts : List (Int × Int)) (rs : List (List Int)) (ms : List Mv) (d0 : PyData) (rest : List PyData), vs = [.ref x, .ref l] ∧ YObj K H x n ts rs ∧ DRow K H l (ms.map mvD ++ d0 :: rest) ∧ (∀ m ∈ ms, MvIn ts rs m) ∧ ¬ IsMv ts rs d0 ∧
  ∀ H', Same H H' → RaisedI CM ms.length H' E
section
variable {P : Program} {w : World} {K : PySem.W.Frag} {mg : Str → Option Value} {base : Heap} {fInt fRow fIsS fMove fCan fBeh fAll fCnt fUn fFil CR CM fIR fI : Addr}
theorem ok_maX {f : Addr} {fd fdF fdIR : FuncData} (F : Fun K "moves_at" "moves_at" sMovesAt f fd) (gF : mg "is_filled_row" = some (.ref fFil)) (GF : FnOk P w K mg base CX0 4 fFil fdF ["yard", "value"] (spFilD K)) (FF : Fun K "is_filled_row" "is_filled_row" sIsFilled fFil fdF) (bF : Binds K fdF ["yard", "value"] [])
    (XR : XE1 K mg "BadRow" "row" CR fIR) (GIR : FnOk P w K mg base CX0 1 fIR fdIR ["self", "row"] (spX1 CR "row")) (bIR : Binds K fdIR ["self", "row"] []) (sc : FnScope ["yard", "row", "slides", "a", "b", "turns", "number"] ["yard", "row"] (defScope sMovesAt)) :
    FnOk P w K mg base (L2.CX P w) 5 f fd ["yard", "row"] (spMAX K CR) := by
  refine F.okX sc (fun vs H Q E h => ?_) (fun cdv A outer s H vs Q E hr h => ?_)
  · obtain ⟨x, y, n, ts, rs, d, rfl, _⟩ := h
    rfl
  · obtain ⟨x, y, n, ts, rs, d, rfl, hy, hd, sh, hb, k⟩ := h
    have hr2 : Room 2 _ := hr.mono (by decide)
    refine ⟨_, pss_cons (ps_if (pt_not (pt_val (pe_call GF hr (by rfl) gF FF.kp bF .nil pass0 (pa_cons (pv 0) (pa_cons (pv 1) pa_nil))))) (pss_one (ps_raise rfl (takes_of rfl rfl rfl rfl) (pmk_oex XR.xc.o XR.i XR.t GIR hr2 bIR .nil pass0 (by rfl) XR.g (pa_cons (pv 1) pa_nil)))) pss_nil)
      (pss_cons ps_never (pss_cons ps_never (pss_one ps_never))), ?_⟩
    refine ⟨_, rfl, _, rfl, x, y, n, ts, rs, d, rfl, hy, hd, sh, fun H1 s1 => ⟨_, rfl, ?_⟩⟩
    rw [hb]
    exact iteT ⟨_, rfl, mkF1 (k.same s1)⟩
theorem scLed : FnScope ["yard", "row", "moves", "numbered", "number", "place", "behind"] ["yard", "row", "moves"] (defScope sLed) := ⟨rfl, rfl, rfl, by decide +kernel, rfl, by decide +kernel, by decide +kernel⟩
theorem ok_ledX {f : Addr} {fd fdF fdA fdIR : FuncData} (F : Fun K "led" "led" sLed f fd) (T : TR K mg fUn) (gF : mg "is_filled_row" = some (.ref fFil)) (GF : FnOk P w K mg base CX0 4 fFil fdF ["yard", "value"] (spFilD K)) (FF : Fun K "is_filled_row" "is_filled_row" sIsFilled fFil fdF) (bF : Binds K fdF ["yard", "value"] [])
    (gA : mg "behind_all" = some (.ref fAll)) (GA : FnOk P w K mg base (L2.CX P w) 3 fAll fdA ["yard", "stand", "moves"] (spAllX K CM)) (FA : Fun K "behind_all" "behind_all" sBehindAll fAll fdA) (bA : Binds K fdA ["yard", "stand", "moves"] [])
    (XR : XE1 K mg "BadRow" "row" CR fIR) (GIR : FnOk P w K mg base CX0 1 fIR fdIR ["self", "row"] (spX1 CR "row")) (bIR : Binds K fdIR ["self", "row"] []) :
    FnOk P w K mg base (L2.CX P w) 5 f fd ["yard", "row", "moves"] (spLedX K CR CM) := by
  refine F.okX scLed (fun vs H Q E h => ?_) (fun cdv A outer s H vs Q E hr h => ?_)
  · obtain ⟨x, y, l, n, ts, rs, d, rfl, _⟩ := h
    rfl
  · obtain ⟨x, y, l, n, ts, rs, d, rfl, hy, hd, sh, k⟩ := h
    have hr2 : Room 2 _ := hr.mono (by decide)
    have hr3 : Room 3 _ := hr.mono (by decide)
    refine ⟨_, pss_cons (ps_if (pt_not (pt_val (pe_call GF hr (by rfl) gF FF.kp bF .nil pass0 (pa_cons (pv 0) (pa_cons (pv 1) pa_nil))))) (pss_one (ps_raise rfl (takes_of rfl rfl rfl rfl) (pmk_oex XR.xc.o XR.i XR.t GIR hr2 bIR .nil pass0 (by rfl) XR.g (pa_cons (pv 1) pa_nil)))) pss_nil)
      (pss_cons (ps_set (i := 3) scLed.nd rfl (Or.inl rfl) (pe_op op_rep (pe_lst (pa_cons pe_int pa_nil)) (pe_fld (pv 0) rfl)))
      (pss_cons (ps_for (passes_of rfl) rfl (pi_enumS (by rfl) T.enum (pv 1)) (pg_tup rfl (pgs_cons (pg_name (i := 4) scLed.nd rfl (Or.inl rfl)) (pgs_cons (pg_name (i := 5) scLed.nd rfl (Or.inl rfl)) pgs_nil)))
        (pss_one (ps_asg (pv 4) (pg_sub (pv 3) (pv 5) set_list))))
      (pss_cons (ps_set (i := 6) scLed.nd rfl (Or.inr rfl) (pe_call GA hr3 (by rfl) gA FA.kp bA .nil (passes_call (takes_of rfl rfl rfl rfl) fun _ _ _ _ h => h) (pa_cons (pv 0) (pa_cons (pv 3) (pa_cons (pv 2) pa_nil)))))
      (pss_one ps_never)))), ?_⟩
    refine ⟨_, rfl, _, rfl, x, y, n, ts, rs, d, rfl, hy, hd, sh, fun H0 s0 => ⟨_, rfl, ?_⟩⟩
    rcases k with ⟨hb, k⟩ | ⟨rfl, la, ds, i, rfl, hl, n60, rok, tok, hrun, k⟩
    · rw [hb]
      exact iteT ⟨_, rfl, mkF1 (k.same s0)⟩
    · rw [show filB n (.tuple []) = true from rfl]
      refine iteF ?_
      cases hd with
      | @tup ds0 rb xs hb hds =>
        cases hds
        obtain ⟨C, dx, a, e, fs, tys, zs, hx, yc, lp, lt, lr, ha, pa, he, pe⟩ := hy.kp (.of_same s0)
        refine ⟨(by show 1 ≤ sizeLine; decide), fun l0 nl0 => ?_⟩
        refine ⟨_, rfl, x, C, dx, fs, _, rfl, Same.new nl0 _ _ hx, yc.c, yc.p, lp, ?_⟩
        refine ⟨l0, (n : Int), [.int 0], rfl, rfl, upd_same, by omega, by omega, Nat.le_trans (by show 1 * ((n : Int)).toNat ≤ 60; omega) (by decide), fun g ng => ?_⟩
        rw [show ((n : Int)).toNat = n by omega, rep_flat]
        have s1 : Same H0 (upd (upd H0 l0 (.lst [.int 0])) g (.lst (List.replicate n (V.int 0)))) := (Same.new nl0).trans (Same.new ng)
        have sA := s0.trans s1
        refine ⟨rb, [], H, rfl, .inr hb, .of_same sA, fun J G w1 hG => ?_⟩
        refine for_it w1 (fun i σ H' => σ = [some (.ref x), some (.ref rb), some (.ref la), some (.ref g), none, none, none] ∧ H' g = some (.lst (List.replicate n (V.int 0))) ∧ Same H H')
          ⟨rfl, upd_same, sA⟩ (fun i σ H' _ ⟨_, _, s⟩ => hG H' (.of_same s)) ?_ ?_
        · rintro i v σ H2 H3 hi _ _
          exact absurd hi (Nat.not_lt_zero _)
        · rintro σ H2 ⟨rfl, eg, s2⟩
          refine ⟨_, rfl, _, rfl, _, rfl, x, g, la, n, ts, rs, List.replicate n 0, ds, rfl, hy.kp (.of_same s2), ⟨by omega, rok, tok, List.length_replicate, fun z hz => by rw [(List.mem_replicate.mp hz).2]; exact Int.le_refl 0⟩, .inl (SqL.of (by rw [eg, List.map_replicate])), ?_, ?_, ?_⟩
          · obtain ⟨⟨ys, h1, h2⟩, sm⟩ := hl
            exact ⟨⟨ys, Same.seqA s2 h1, Dqs.kp s2 h2⟩, sm⟩
          · intro st' er
            rw [hrun] at er
            cases er
          · intro j er H' s'
            rw [hrun] at er
            cases er
            exact k H' (s2.trans s')
end
end Y
set_option Elab.async false
set_option linter.all false
set_option maxRecDepth 100000
set_option maxHeartbeats 4000000
namespace Y
open PySem L2
section
variable {K : PySem.W.Frag} {σ : L2.St} {H H' : Hp}
theorem evds_cons {te : TE} {ta : TA} {d : PyData} {ds : List PyData} (h : EvD K σ te d) (g : EvDs K σ ta ds) : EvDs K σ (tCons te ta) (d :: ds) := fun H Q k => h H _ fun v H1 s1 d1 => g H1 _ fun vs H2 s2 d2 => k _ H2 (s1.trans s2) (.cons (Dq.kp s2 d1) d2)
theorem evd_tup {ta : TA} {ds : List PyData} (g : EvDs K σ ta ds) (hl : ds.length ≤ 100) : EvD K σ (tTup ta) (.tuple ds) := fun H Q k => g H _ fun vs H1 s1 d1 => ⟨by rw [dqs_len d1]; exact Nat.le_trans hl (by decide), fun p np => k _ _ (s1.trans (Same.new np)) (.tup (SqT.of upd_same) (Dqs.kp (Same.new np) d1))⟩
theorem evd_lst {ta : TA} {ds : List PyData} (g : EvDs K σ ta ds) (hl : ds.length ≤ 100) : EvD K σ (tLst ta) (.list ds) := fun H Q k => g H _ fun vs H1 s1 d1 => ⟨by rw [dqs_len d1]; exact Nat.le_trans hl (by decide), fun p np => k _ _ (s1.trans (Same.new np)) (.lst (SqL.of upd_same) (Dqs.kp (Same.new np) d1))⟩
theorem evd_dct : EvD K σ tDNewK (.dict []) := fun H Q k => fun p np => k _ _ (Same.new np) (.dct upd_same)
theorem Lean1.ties {ys : List V} {ts : List (Int × Int)} (s : Lean1 H H') (h : Paired (TieAt K H) ys ts) : Paired (TieAt K H') ys ts := par_map (fun y r ⟨b, e, hb⟩ => ⟨b, e, s.seqT hb⟩) h
theorem Lean1.rings {ys : List V} {rs : List (List Int)} (s : Lean1 H H') (h : Paired (RingAt K H) ys rs) : Paired (RingAt K H') ys rs := par_map (fun y r ⟨b, e, hb⟩ => ⟨b, e, s.seqT hb⟩) h
theorem YObj.lean {x : Addr} {n : Nat} {ts : List (Int × Int)} {rs : List (List Int)} (h : YObj K H x n ts rs) (s : Lean1 H H') : YObj K H' x n ts rs := by
  obtain ⟨C, dx, a, e, fs, ys, zs, hx, yc, lp, lt, lr, ha, pa, he, pe⟩ := h
  exact ⟨C, dx, a, e, fs, ys, zs, s _ _ hx (fun _ z => by cases z) (fun _ z => by cases z) (fun _ z => by cases z), yc, lp, lt, lr, s.seqT ha, s.ties pa, s.seqT he, s.rings pe⟩
theorem YdAt.lean {q : Addr} {n : Nat} {ts : List (Int × Int)} {rs : List (List Int)} (h : YdAt K H q n ts rs) (s : Lean1 H H') : YdAt K H' q n ts rs := by
  obtain ⟨a, e, ys, zs, hq, ha, pa, he, pe⟩ := h
  exact ⟨a, e, ys, zs, s.seqT hq, s.seqT ha, s.ties pa, s.seqT he, s.rings pe⟩
theorem Lean1.seqA {a : Addr} {xs : List V} (s : Lean1 H H') (h : SqA K H a xs) : SqA K H' a xs := h.imp s.seqL s.seqT
end
theorem dqs_app {K : PySem.W.Frag} {H : Hp} : ∀ {ds es : List PyData} {vs ws : List V}, Dqs K H ds vs → Dqs K H es ws → Dqs K H (ds ++ es) (vs ++ ws)
  | _, _, _, _, .nil, g => g
  | _, _, _, _, .cons h t, g => .cons h (dqs_app t g)
section
variable {K : PySem.W.Frag} {σ : L2.St} {H : Hp}
/-- some = [..] -/
theorem evl_set {ta : TA} {ds : List PyData} {i : Nat} {D : Ends} {u : TS} (g : EvDs K σ ta ds) (hs : ds.length ≤ 1000)
    (k : ∀ (q : Addr) (vs : List V) (H' : Hp), Same H H' → H' q = some (.lst vs) → Dqs K H' ds vs → u D (σ.set i (some (.ref q))) H') : tSeq (tAsg (tLst ta) (gName i)) u D σ H :=
  g H _ fun vs H1 s1 g1 => ⟨by rw [dqs_len g1]; exact Nat.le_trans hs (by decide), fun q hq => k q vs _ (s1.trans (Same.new hq)) upd_same (Dqs.kp (Same.new hq) g1)⟩
/-- some + [..] -/
theorem evl_cat {ta : TA} {ds es : List PyData} {i : Nat} {q : Addr} {vs : List V} {Q : VK} (hσ : σ[i]? = some (some (.ref q))) (hq : H q = some (.lst vs)) (hd : Dqs K H ds vs) (hs : ds.length + es.length ≤ 1000) (g : EvDs K σ ta es)
    (k : ∀ (q' : Addr) (ws : List V) (H' : Hp), Same H H' → H' q' = some (.lst ws) → Dqs K H' (ds ++ es) ws → Q (.ref q') H') : tOp rCat (tVar i) (tLst ta) σ H Q := by
  refine ⟨_, hσ, ?_⟩
  refine g H _ fun ws H1 s1 g1 => ?_
  have l1 := dqs_len hd
  have l2 := dqs_len g1
  refine ⟨by rw [l2]; exact Nat.le_trans (by omega : es.length ≤ 1000) (by decide), fun q1 n1 => ?_⟩
  refine ⟨q, q1, vs, ws, rfl, rfl, by rw [upd_ne (ne_of_none (s1 _ _ hq) n1)]; exact s1 _ _ hq, upd_same, Nat.le_trans (by omega : vs.length + ws.length ≤ 1000) (by decide), fun q2 n2 => ?_⟩
  have s3 := (Same.new (o := .lst ws) n1).trans (Same.new (o := .lst (vs ++ ws)) n2)
  exact k q2 (vs ++ ws) _ (s1.trans s3) upd_same (dqs_app (Dqs.kp (s1.trans s3) hd) (Dqs.kp s3 g1))
/-- a tuple of data picked from a row -/
theorem evl_go {ta : TA} {ds : List PyData} {Q : VK} (g : EvDs K σ ta ds) (hs : ds.length ≤ 1000)
    (k : ∀ (q : Addr) (vs : List V) (H' : Hp), Same H H' → H' q = some (.lst vs) → Dqs K H' ds vs → Q (.ref q) H') : tLst ta σ H Q :=
  g H _ fun vs H1 s1 g1 => ⟨by rw [dqs_len g1]; exact Nat.le_trans hs (by decide), fun q hq => k q vs _ (s1.trans (Same.new hq)) upd_same (Dqs.kp (Same.new hq) g1)⟩
end
/-! ### small data, and what is told of it -/
structure Sd (d : PyData) : Prop where
  show_ : d.showable = true
  list : d.hasDict = true → unlisted d = true
  deep : d.depth ≤ 10
  len : d.shown.length ≤ 1000
def sdB (d : PyData) : Bool := d.showable && (!d.hasDict || unlisted d) && decide (d.depth ≤ 10) && decide (d.shown.length ≤ 1000)
theorem sd_by {d : PyData} (h : sdB d = true) : Sd d := by
  unfold sdB at h
  simp only [Bool.and_eq_true, Bool.or_eq_true, Bool.not_eq_true', decide_eq_true_eq] at h
  obtain ⟨⟨⟨h1, h2⟩, h3⟩, h4⟩ := h
  exact ⟨h1, fun z => h2.elim (fun q => by rw [q] at z; cases z) id, h3, h4⟩
theorem sd_int {z : Int} (h0 : 0 ≤ z) (h1 : z < 1000) : (PyData.int z).showable = true ∧ (PyData.int z).shown.length ≤ 10 := by
  refine ⟨?_, ?_⟩
  · simp only [PyData.showable, decide_eq_true_eq]
    exact Nat.lt_of_le_of_lt (Nat.log2_le_self _) (by omega)
  · rw [PyData.shown_int]
    exact PySem.W.KT.len_num h0 (by omega)
/-- rows of small data with no dict in them -/
theorem sd_sh {d : PyData} {k L : Nat} (h : Sh d k L) (hk : k ≤ 10) (hL : L ≤ 1000) : Sd d := ⟨h.show_, fun z => (by rw [h.nod] at z; cases z), Nat.le_trans h.deep hk, Nat.le_trans h.len hL⟩
theorem sh_nat {z : Int} (h0 : 0 ≤ z) (h1 : z < 1000) : Sh (.int z) 0 10 := ⟨(sd_int h0 h1).1, rfl, Nat.le_refl _, (sd_int h0 h1).2⟩
theorem sh_ints {r : List Int} {m : Nat} (h : ∀ z ∈ r, 0 ≤ z ∧ z < 1000) (hm : r.length ≤ m) : Sh (.tuple (r.map PyData.int)) 1 (12 * m + 4) ∧ Sh (.list (r.map PyData.int)) 1 (12 * m + 4) := by
  have a : ∀ d ∈ r.map PyData.int, Sh d 0 10 := fun d hd => by
    obtain ⟨z, hz, rfl⟩ := List.mem_map.mp hd
    exact sh_nat (h z hz).1 (h z hz).2
  exact ⟨sh_tuple a (by rw [List.length_map]; exact hm), sh_list a (by rw [List.length_map]; exact hm)⟩
/-- what repr asks of an error told -/
structure Tl (d : PyData) : Prop where
  show_ : d.showable = true
  list : d.hasDict = true → unlisted d = true
  deep : d.depth ≤ 40
  len : d.shown.length ≤ sizeLine
theorem sd_all {ds : List PyData} (h : ∀ d ∈ ds, Sd d) : PyData.showableAll ds = true ∧ (PyData.hasDictAll ds = true → ∀ d ∈ ds, d.hasDict = true ∨ d.hasDict = false) ∧ PyData.depthAll ds ≤ 10 := by
  induction ds with
  | nil => exact ⟨rfl, (fun _ d hd => by cases hd), Nat.zero_le _⟩
  | cons d ds ih =>
    obtain ⟨h1, _, h3⟩ := ih fun x hx => h x (List.mem_cons_of_mem _ hx)
    have a := h d List.mem_cons_self
    refine ⟨?_, fun _ d _ => (by cases d.hasDict <;> simp), Nat.max_le.mpr ⟨a.deep, h3⟩⟩
    show (d.showable && PyData.showableAll ds) = true
    rw [a.show_, h1]
    rfl
theorem tl_pair {s : Str} {d : PyData} (hs : (PyData.str s).shown.length ≤ 1000) (h : Sd d) : Tl (.tuple [.str s, d]) := by
  have hS : Sd (.str s) := ⟨rfl, (fun z => by cases z), Nat.zero_le _, hs⟩
  have all : ∀ x ∈ [PyData.str s, d], Sd x := fun x hx => by
    rcases List.mem_cons.mp hx with rfl | hx
    · exact hS
    · rw [List.mem_singleton.mp hx]; exact h
  obtain ⟨h1, _, h3⟩ := sd_all all
  refine ⟨h1, fun z => ?_, Nat.le_trans (Nat.succ_le_succ h3) (by decide), ?_⟩
  · have z' : d.hasDict = true := by
      have : (false || (d.hasDict || false)) = true := z
      simpa using this
    show (true && (unlisted d && true)) = true
    rw [h.list z']
    rfl
  · have := (shown_rows_le (k := 1000) (m := 2) (fun x hx => (all x hx).len) (Nat.le_refl 2)).2
    exact Nat.le_trans this (by decide)
theorem tl_three {s t : Str} {d : PyData} (hs : (PyData.str s).shown.length ≤ 1000) (ht : (PyData.str t).shown.length ≤ 1000) (h : Sd d) : Tl (.tuple [.str s, .str t, d]) := by
  have hS : Sd (.str s) := ⟨rfl, (fun z => by cases z), Nat.zero_le _, hs⟩
  have hT : Sd (.str t) := ⟨rfl, (fun z => by cases z), Nat.zero_le _, ht⟩
  have all : ∀ x ∈ [PyData.str s, .str t, d], Sd x := fun x hx => by
    rcases List.mem_cons.mp hx with rfl | hx
    · exact hS
    · rcases List.mem_cons.mp hx with rfl | hx
      · exact hT
      · rw [List.mem_singleton.mp hx]; exact h
  obtain ⟨h1, _, h3⟩ := sd_all all
  refine ⟨h1, fun z => ?_, Nat.le_trans (Nat.succ_le_succ h3) (by decide), ?_⟩
  · have z' : d.hasDict = true := by
      have : (false || (false || (d.hasDict || false))) = true := z
      simpa using this
    show (true && (true && (unlisted d && true))) = true
    rw [h.list z']
    rfl
  · have := (shown_rows_le (k := 1000) (m := 3) (fun x hx => (all x hx).len) (Nat.le_refl 3)).2
    exact Nat.le_trans this (by decide)
/-! ### the same error -/
abbrev sSame : Stmt := top 52
def spSame (K : PySem.W.Frag) : Sp := fun vs H Q _ => ∃ (x y : V) (d : PyData), vs = [x, y] ∧ Dq K H d x ∧ Dq K H d y ∧ Tl d ∧ Q (.bl true) H
section
variable {P : Program} {w : World} {K : PySem.W.Frag} {mg : Str → Option Value} {base : Heap} {fDraw fPick : Addr}
theorem scSame : FnScope ["_law_one", "_law_other"] ["_law_one", "_law_other"] (defScope sSame) := ⟨rfl, rfl, rfl, by decide +kernel, rfl, by decide +kernel, by decide +kernel⟩
theorem ok_same {f : Addr} {fd : FuncData} (F : Fun K "_law_same" "_law_same" sSame f fd) (gr : mg "repr" = none) : FnG P w K mg base CX0 1 f fd ["_law_one", "_law_other"] (spSame K) := by
  refine okG F scSame (fun vs H Q E h => ?_) (fun cdv A outer s H vs Q E hg hr h => ?_)
  · obtain ⟨x, y, d, rfl, _⟩ := h
    rfl
  · obtain ⟨x, y, d, rfl, hx, hy, tl, k⟩ := h
    have hu := hr.units
    refine ⟨_, pss_one (ps_ret (pe_cmpR op_eq (pe_callB (call_show hg hu) (by rfl) gr (by decide +kernel) (pa_cons (pv 0) pa_nil)) (pe_callB (call_show hg hu) (by rfl) gr (by decide +kernel) (pa_cons (pv 1) pa_nil)) (nomark _))), ?_⟩
    refine ⟨_, rfl, x, d, rfl, hx, tl.show_, tl.list, tl.deep, tl.len, ?_⟩
    refine ⟨_, rfl, y, d, rfl, hy, tl.show_, tl.list, tl.deep, tl.len, ?_⟩
    refine ⟨rfl, ?_⟩
    rw [decide_eq_true rfl]
    exact k
end
end Y
set_option Elab.async false
set_option linter.all false
set_option maxRecDepth 100000
set_option maxHeartbeats 400000
namespace Y
open PySem L2
section
variable {P : Program} {w : World} {K : PySem.W.Frag} {mg : Str → Option Value} {base : Heap} {fDraw fPick : Addr}
/-! ### what is no filled row -/
abbrev sOddR : Stmt := top 58
structure OddR (n : Nat) (d : PyData) : Prop where
  fil : filB n d = false
  sh : short63 d
  sd : Sd d
def spOddR (K : PySem.W.Frag) : Sp := fun vs H Q _ => ∃ (p c : Addr) (n b : Nat), vs = [.ref p, .int (n : Int)] ∧ Pen H p c (b + 1) ∧ n ≤ 60 ∧ ∀ v d H', Dq K H' d v → OddR n d → But p H H' → Pen H' p c b → Q v H'
def oddA (n : Nat) : List PyData := [.none, .int 5, .str "01", .tuple [.int 0, .int 0], .tuple [.int 1, .int 0], .tuple [.int (-1)], .tuple [.int (n : Int)], .tuple [.bool true], .tuple [.str "0"], .tuple [.tuple [.int 0]], .dict [], .tuple [.none], .list [.int 0, .int 0]]
def oddB : List PyData := [.tuple [.bool false], .list [.bool false]]
def oddRows (n : Nat) : List PyData := oddA n ++ oddB
theorem fil_false {n : Nat} {d : PyData} (h : ∀ es, rowOf d = some es → es.all (belowB n) = true → (numsOf es).Nodup → ¬ (numsOf es).Pairwise (· ≤ ·)) : filB n d = false := by
  unfold filB unB
  cases hro : rowOf d with
  | none => rfl
  | some es =>
    show ((es.all (belowB n) && decide (numsOf es).Nodup) && decide ((numsOf es).Pairwise (· ≤ ·))) = false
    cases h1 : es.all (belowB n) with
    | false => rfl
    | true =>
      by_cases h2 : (numsOf es).Nodup
      · rw [decide_eq_false (h es hro h1 h2), Bool.and_false]
      · rw [decide_eq_false h2]
        rfl
theorem odd_all {n : Nat} (h60 : n ≤ 60) : ∀ d ∈ oddRows n, OddR n d := by
  have sn : Sh (.tuple [.int (n : Int)]) 1 100 := (sh_ints (r := [(n : Int)]) (m := 1) (fun z hz => by rw [List.mem_singleton.mp hz]; omega) (Nat.le_refl 1)).1.mono (Nat.le_refl 1) (by decide)
  have noRow : ∀ d, rowOf d = none → sdB d = true → OddR n d := fun d h1 h2 => ⟨fil_false (fun es e => by rw [h1] at e; cases e), (fun es e => by rw [h1] at e; cases e), sd_by h2⟩
  have some1 : ∀ (d : PyData) (es : List PyData), rowOf d = some es → es.length < 64 → Sd d → (es.all (belowB n) = true → (numsOf es).Nodup → ¬ (numsOf es).Pairwise (· ≤ ·)) → OddR n d := fun d es h1 h2 h3 h4 =>
    ⟨fil_false (fun es' e => by rw [h1] at e; cases Option.some.inj e; exact h4), (fun es' e => by rw [h1] at e; cases Option.some.inj e; exact h2), h3⟩
  intro d hd
  unfold oddRows oddA oddB at hd
  simp only [List.cons_append, List.nil_append, List.mem_cons, List.not_mem_nil, or_false] at hd
  rcases hd with rfl | rfl | rfl | rfl | rfl | rfl | rfl | rfl | rfl | rfl | rfl | rfl | rfl | rfl | rfl
  · exact noRow _ rfl (by decide +kernel)
  · exact noRow _ rfl (by decide +kernel)
  · exact noRow _ rfl (by decide +kernel)
  · exact some1 _ _ rfl (by decide) (sd_by (by decide +kernel)) fun _ h _ => by revert h; decide
  · exact some1 _ _ rfl (by decide) (sd_by (by decide +kernel)) fun _ _ h => by revert h; decide
  · exact some1 _ _ rfl (by decide) (sd_by (by decide +kernel)) fun h => by simp [belowB] at h
  · exact some1 _ _ rfl (by show 1 < 64; decide) (sd_sh sn (by decide) (by decide)) fun h => by simp [belowB] at h
  · exact some1 _ _ rfl (by decide) (sd_by (by decide +kernel)) fun h => by simp [belowB] at h
  · exact some1 _ _ rfl (by decide) (sd_by (by decide +kernel)) fun h => by simp [belowB] at h
  · exact some1 _ _ rfl (by decide) (sd_by (by decide +kernel)) fun h => by simp [belowB] at h
  · exact noRow _ rfl (by decide +kernel)
  · exact some1 _ _ rfl (by decide) (sd_by (by decide +kernel)) fun h => by simp [belowB] at h
  · exact some1 _ _ rfl (by decide) (sd_by (by decide +kernel)) fun _ h _ => by revert h; decide
  · exact some1 _ _ rfl (by decide) (sd_by (by decide +kernel)) fun h => by simp [belowB] at h
  · exact some1 _ _ rfl (by decide) (sd_by (by decide +kernel)) fun h => by simp [belowB] at h
theorem scOddR : FnScope ["_law_pen_here", "_law_places", "_law_some"] ["_law_pen_here", "_law_places"] (defScope sOddR) := ⟨rfl, rfl, rfl, by decide +kernel, rfl, by decide +kernel, by decide +kernel⟩
theorem ok_oddR {f : Addr} {fd fdK fdD : FuncData} (F : Fun K "_law_odd_row" "_law_odd_row" sOddR f fd) (T : TG K mg fDraw) (gPick : mg "_law_pick" = some (.ref fPick)) (FK : Fun K "_law_pick" "_law_pick" sPick fPick fdK) (bK : Binds K fdK ["_law_pen_here", "_law_some"] [])
    (FD : Fun K "_law_draw" "_law_draw" sDraw fDraw fdD) (bD : Binds K fdD ["_law_pen_here", "_law_many"] []) : FnOk P w K mg base CX0 3 f fd ["_law_pen_here", "_law_places"] (spOddR K) := by
  have GK : FnOk P w K mg base CX0 2 fPick fdK ["_law_pen_here", "_law_some"] (spPick K) := ok_pick FK T.p FD bD
  refine F.ok scOddR (fun vs H Q E h => ?_) (fun cdv A outer s H vs Q E hr h => ?_)
  · obtain ⟨p, c, n, b, rfl, _⟩ := h
    rfl
  · obtain ⟨p, c, n, b, rfl, hP, n60, k⟩ := h
    refine ⟨_, pss_cons (ps_set (i := 2) scOddR.nd rfl (Or.inl rfl) (pe_lst (pa_cons pe_non (pa_cons pe_int (pa_cons pe_str (pa_cons (pe_tup (pa_cons pe_int (pa_cons pe_int pa_nil))) (pa_cons (pe_tup (pa_cons pe_int (pa_cons pe_int pa_nil))) (pa_cons (pe_tup (pa_cons (pe_un un_neg pe_int) pa_nil)) (pa_cons (pe_tup (pa_cons (pv 1) pa_nil))
        (pa_cons (pe_tup (pa_cons pe_bl pa_nil)) (pa_cons (pe_tup (pa_cons pe_str pa_nil)) (pa_cons (pe_tup (pa_cons (pe_tup (pa_cons pe_int pa_nil)) pa_nil)) (pa_cons pe_dnewK (pa_cons (pe_tup (pa_cons pe_non pa_nil)) (pa_cons (pe_lst (pa_cons pe_int (pa_cons pe_int pa_nil))) pa_nil)))))))))))))))
      (pss_one (ps_ret (pe_call GK hr (by rfl) gPick FK.kp bK .nil pass0 (pa_cons (pv 0) (pa_cons (pe_op op_cat (pv 2) (pe_lst (pa_cons (pe_tup (pa_cons pe_bl pa_nil)) (pa_cons (pe_lst (pa_cons pe_bl pa_nil)) pa_nil)))) pa_nil))))), ?_⟩
    refine evl_set (K := K) (ds := oddA n) ?g1 (by show 13 ≤ 1000; decide) fun q vs H1 s1 e1 d1 => ?_
    case g1 =>
      exact evds_cons evd_non (evds_cons (evd_int _) (evds_cons (evd_str _) (evds_cons (evd_tup (evds_cons (evd_int _) (evds_cons (evd_int _) evds_nil)) (by decide)) (evds_cons (evd_tup (evds_cons (evd_int _) (evds_cons (evd_int _) evds_nil)) (by decide)) (evds_cons (evd_tup (evds_cons (evd_neg (evd_int _)) evds_nil) (by decide)) (evds_cons (evd_tup (evds_cons (evd_var rfl) evds_nil) (by show 1 ≤ 100; decide))
        (evds_cons (evd_tup (evds_cons (evd_bl _) evds_nil) (by decide)) (evds_cons (evd_tup (evds_cons (evd_str _) evds_nil) (by decide)) (evds_cons (evd_tup (evds_cons (evd_tup (evds_cons (evd_int _) evds_nil) (by decide)) evds_nil) (by decide)) (evds_cons evd_dct (evds_cons (evd_tup (evds_cons evd_non evds_nil) (by decide)) (evds_cons (evd_lst (evds_cons (evd_int _) (evds_cons (evd_int _) evds_nil)) (by decide)) evds_nil))))))))))))
    refine ⟨_, rfl, ?_⟩
    refine evl_cat (K := K) (ds := oddA n) (es := oddB) rfl e1 d1 (by show 15 ≤ 1000; decide) ?g2 fun q2 ws H2 s2 e2 d2 => ?_
    case g2 =>
      exact evds_cons (evd_tup (evds_cons (evd_bl _) evds_nil) (by decide)) (evds_cons (evd_lst (evds_cons (evd_bl _) evds_nil) (by decide)) evds_nil)
    have sA := s1.trans s2
    have lw : ws.length = 15 := dqs_len d2
    refine ⟨p, c, q2, ws, b, rfl, hP.same sA, .inl (SqL.of e2), (fun z => by rw [z] at lw; cases lw), by rw [lw]; decide, fun x i H3 hx P3 B3 => ?_⟩
    obtain ⟨d, ed, hd⟩ := dqs_get d2 hx
    exact k x d H3 ((Lean1.of_pen B3 (hP.same sA)).dq hd) (odd_all n60 d (List.mem_of_getElem? ed)) ((But.of_same sA).trans B3) P3
end
end Y
set_option Elab.async false
set_option linter.all false
set_option maxRecDepth 100000
set_option maxHeartbeats 2000000
namespace Y
open PySem L2
/-! ### rows that are none: all that looks at them raises -/
abbrev sRet : Stmt := top 37
abbrev sOutsOf : Stmt := top 38
abbrev sAre : Stmt := top 40
abbrev sHome : Stmt := top 41
def spAreX (K : PySem.W.Frag) (CR : Addr) : Sp := fun vs H Q E => ∃ (x : Addr) (y t : V) (n : Nat) (ts : List (Int × Int)) (rs : List (List Int)) (d : PyData), vs = [.ref x, y, t] ∧ YObj K H x n ts rs ∧ Dq K H d y ∧ short63 d ∧ filB n d = false ∧ RaisedF CR [("row", y)] H E
section
variable {P : Program} {w : World} {K : PySem.W.Frag} {mg : Str → Option Value} {base : Heap} {fFil fChk fLot fLost fRet CR fIR : Addr}
theorem ok_chkX {f : Addr} {fd fdF fdIR : FuncData} (F : Fun K "check_row" "check_row" sChk f fd) (gF : mg "is_filled_row" = some (.ref fFil)) (GF : FnOk P w K mg base CX0 4 fFil fdF ["yard", "value"] (spFilD K)) (FF : Fun K "is_filled_row" "is_filled_row" sIsFilled fFil fdF) (bF : Binds K fdF ["yard", "value"] [])
    (XR : XE1 K mg "BadRow" "row" CR fIR) (GIR : FnOk P w K mg base CX0 1 fIR fdIR ["self", "row"] (spX1 CR "row")) (bIR : Binds K fdIR ["self", "row"] []) :
    FnOk P w K mg base (L2.CX P w) 5 f fd ["yard", "row"] (spMAX K CR) := by
  refine F.okX scChk (fun vs H Q E h => ?_) (fun cdv A outer s H vs Q E hr h => ?_)
  · obtain ⟨x, y, n, ts, rs, d, rfl, _⟩ := h
    rfl
  · obtain ⟨x, y, n, ts, rs, d, rfl, hy, hd, sh, hb, k⟩ := h
    have hr2 : Room 2 _ := hr.mono (by decide)
    refine ⟨_, pss_one (ps_if (pt_not (pt_val (pe_call GF hr (by rfl) gF FF.kp bF .nil pass0 (pa_cons (pv 0) (pa_cons (pv 1) pa_nil))))) (pss_one (ps_raise rfl (takes_of rfl rfl rfl rfl) (pmk_oex XR.xc.o XR.i XR.t GIR hr2 bIR .nil pass0 (by rfl) XR.g (pa_cons (pv 1) pa_nil)))) pss_nil), ?_⟩
    refine ⟨_, rfl, _, rfl, x, y, n, ts, rs, d, rfl, hy, hd, sh, fun H1 s1 => ⟨_, rfl, ?_⟩⟩
    rw [hb]
    exact iteT ⟨_, rfl, mkF1 (k.same s1)⟩
theorem ok_lotX {f : Addr} {fd fdC : FuncData} (F : Fun K "lot_of" "lot_of" sLot f fd) (gC : mg "check_row" = some (.ref fChk))
    (GC : FnOk P w K mg base (L2.CX P w) 5 fChk fdC ["yard", "row"] (spMAX K CR)) (FC : Fun K "check_row" "check_row" sChk fChk fdC) (bC : Binds K fdC ["yard", "row"] []) : FnOk P w K mg base (L2.CX P w) 8 f fd ["yard", "row"] (spMAX K CR) := by
  refine F.okX scLot (fun vs H Q E h => ?_) (fun cdv A outer s H vs Q E hr h => ?_)
  · obtain ⟨x, y, n, ts, rs, d, rfl, _⟩ := h
    rfl
  · obtain ⟨x, y, n, ts, rs, d, rfl, h⟩ := h
    have hr5 : Room 5 _ := hr.mono (by decide)
    exact ⟨_, pss_cons (ps_expr (pe_call GC hr5 (by rfl) gC FC.kp bC .nil (passes_call (takes_of rfl rfl rfl rfl) fun _ _ _ _ h => h) (pa_cons (pv 0) (pa_cons (pv 1) pa_nil)))) (pss_one ps_never), _, rfl, _, rfl, x, y, n, ts, rs, d, rfl, h⟩
theorem ok_lostX {f : Addr} {fd fdL : FuncData} (F : Fun K "lost_tie" "lost_tie" sLost f fd) (gL : mg "lot_of" = some (.ref fLot))
    (GL : FnOk P w K mg base (L2.CX P w) 8 fLot fdL ["yard", "row"] (spMAX K CR)) (FL : Fun K "lot_of" "lot_of" sLot fLot fdL) (bL : Binds K fdL ["yard", "row"] []) : FnOk P w K mg base (L2.CX P w) 9 f fd ["yard", "row"] (spMAX K CR) := by
  refine F.okX scLost (fun vs H Q E h => ?_) (fun cdv A outer s H vs Q E hr h => ?_)
  · obtain ⟨x, y, n, ts, rs, d, rfl, _⟩ := h
    rfl
  · obtain ⟨x, y, n, ts, rs, d, rfl, h⟩ := h
    have hu := hu_of hr
    exact ⟨_, pss_cons (ps_set (i := 2) scLost.nd rfl (Or.inr rfl) (pe_dcT (own := [("now", 5)]) (g := gName 5) (tt := tYes) hu rfl scLost.nd (pi_tup (pe_call GL hr (by rfl) gL FL.kp bL .nil (passes_call (takes_of rfl rfl rfl rfl) fun _ _ _ _ h => h) (pa_cons (pv 0) (pa_cons (pv 1) pa_nil)))) (blkOk_by (N := NLost) (sc := defScope sLost) (by decide +kernel))
        (fun _ _ _ _ _ => pg_name (i := 5) scLost.nd rfl (Or.inl rfl)) (fun _ _ _ _ _ => pts_nil) (fun _ _ _ _ _ => pe_never) (fun _ _ _ _ _ => pe_never))) (pss_cons ps_never (pss_cons ps_never (pss_one ps_never))), _, rfl, _, rfl, x, y, n, ts, rs, d, rfl, h⟩
theorem scRet : FnScope ["yard", "row", "lost"] ["yard", "row"] (defScope sRet) := ⟨rfl, rfl, rfl, by decide +kernel, rfl, by decide +kernel, by decide +kernel⟩
theorem ok_retX {f : Addr} {fd fdL : FuncData} (F : Fun K "check_returning" "check_returning" sRet f fd) (gL : mg "lost_tie" = some (.ref fLost))
    (GL : FnOk P w K mg base (L2.CX P w) 9 fLost fdL ["yard", "row"] (spMAX K CR)) (FL : Fun K "lost_tie" "lost_tie" sLost fLost fdL) (bL : Binds K fdL ["yard", "row"] []) : FnOk P w K mg base (L2.CX P w) 10 f fd ["yard", "row"] (spMAX K CR) := by
  refine F.okX scRet (fun vs H Q E h => ?_) (fun cdv A outer s H vs Q E hr h => ?_)
  · obtain ⟨x, y, n, ts, rs, d, rfl, _⟩ := h
    rfl
  · obtain ⟨x, y, n, ts, rs, d, rfl, h⟩ := h
    exact ⟨_, pss_cons (ps_set (i := 2) scRet.nd rfl (Or.inl rfl) (pe_call GL hr (by rfl) gL FL.kp bL .nil (passes_call (takes_of rfl rfl rfl rfl) fun _ _ _ _ h => h) (pa_cons (pv 0) (pa_cons (pv 1) pa_nil)))) (pss_one ps_never), _, rfl, _, rfl, x, y, n, ts, rs, d, rfl, h⟩
theorem scOutsOf : FnScope ["yard", "row", "rows", "ways", "item"] ["yard", "row"] (defScope sOutsOf) := ⟨rfl, rfl, rfl, by decide +kernel, rfl, by decide +kernel, by decide +kernel⟩
theorem ok_outsOfX {f : Addr} {fd fdL : FuncData} (F : Fun K "outs_of" "outs_of" sOutsOf f fd) (gL : mg "check_returning" = some (.ref fRet))
    (GL : FnOk P w K mg base (L2.CX P w) 10 fRet fdL ["yard", "row"] (spMAX K CR)) (FL : Fun K "check_returning" "check_returning" sRet fRet fdL) (bL : Binds K fdL ["yard", "row"] []) : FnOk P w K mg base (L2.CX P w) 11 f fd ["yard", "row"] (spMAX K CR) := by
  refine F.okX scOutsOf (fun vs H Q E h => ?_) (fun cdv A outer s H vs Q E hr h => ?_)
  · obtain ⟨x, y, n, ts, rs, d, rfl, _⟩ := h
    rfl
  · obtain ⟨x, y, n, ts, rs, d, rfl, h⟩ := h
    exact ⟨_, pss_cons (ps_expr (pe_call GL hr (by rfl) gL FL.kp bL .nil (passes_call (takes_of rfl rfl rfl rfl) fun _ _ _ _ h => h) (pa_cons (pv 0) (pa_cons (pv 1) pa_nil)))) (pss_cons ps_never (pss_cons ps_never (pss_one ps_never))), _, rfl, _, rfl, x, y, n, ts, rs, d, rfl, h⟩
theorem scHome : FnScope ["yard", "row", "ways"] ["yard", "row"] (defScope sHome) := ⟨rfl, rfl, rfl, by decide +kernel, rfl, by decide +kernel, by decide +kernel⟩
theorem ok_homeX {f : Addr} {fd fdL : FuncData} (F : Fun K "way_home" "way_home" sHome f fd) (gL : mg "check_returning" = some (.ref fRet))
    (GL : FnOk P w K mg base (L2.CX P w) 10 fRet fdL ["yard", "row"] (spMAX K CR)) (FL : Fun K "check_returning" "check_returning" sRet fRet fdL) (bL : Binds K fdL ["yard", "row"] []) : FnOk P w K mg base (L2.CX P w) 11 f fd ["yard", "row"] (spMAX K CR) := by
  refine F.okX scHome (fun vs H Q E h => ?_) (fun cdv A outer s H vs Q E hr h => ?_)
  · obtain ⟨x, y, n, ts, rs, d, rfl, _⟩ := h
    rfl
  · obtain ⟨x, y, n, ts, rs, d, rfl, h⟩ := h
    exact ⟨_, pss_cons (ps_expr (pe_call GL hr (by rfl) gL FL.kp bL .nil (passes_call (takes_of rfl rfl rfl rfl) fun _ _ _ _ h => h) (pa_cons (pv 0) (pa_cons (pv 1) pa_nil)))) (pss_cons ps_never (pss_one ps_never)), _, rfl, _, rfl, x, y, n, ts, rs, d, rfl, h⟩
abbrev NAre : List Str := ["yard", "row", "told", "rows", "home", "way", "item"]
theorem scAre : FnScope NAre ["yard", "row", "told"] (defScope sAre) := ⟨rfl, rfl, rfl, by decide +kernel, rfl, by decide +kernel, by decide +kernel⟩
theorem ok_areX {f : Addr} {fd fdL : FuncData} (F : Fun K "are_outs" "are_outs" sAre f fd) (gL : mg "lost_tie" = some (.ref fLost))
    (GL : FnOk P w K mg base (L2.CX P w) 9 fLost fdL ["yard", "row"] (spMAX K CR)) (FL : Fun K "lost_tie" "lost_tie" sLost fLost fdL) (bL : Binds K fdL ["yard", "row"] []) : FnOk P w K mg base (L2.CX P w) 10 f fd ["yard", "row", "told"] (spAreX K CR) := by
  refine F.okX scAre (fun vs H Q E h => ?_) (fun cdv A outer s H vs Q E hr h => ?_)
  · obtain ⟨x, y, t, n, ts, rs, d, rfl, _⟩ := h
    rfl
  · obtain ⟨x, y, t, n, ts, rs, d, rfl, h⟩ := h
    exact ⟨_, pss_cons (ps_if (PW.pt (pw_or (pt_cmp (pc_notN (pe_call GL hr (by rfl) gL FL.kp bL .nil (passes_call (takes_of rfl rfl rfl rfl) fun _ _ _ _ h => h) (pa_cons (pv 0) (pa_cons (pv 1) pa_nil))))) (pw_or1 (pt_not (pt_val pe_never))))) (pss_one ps_never) pss_nil)
      (pss_cons ps_never (pss_cons ps_never (pss_cons ps_never (pss_cons ps_never (pss_cons ps_never (pss_cons ps_never (pss_one ps_never))))))), _, rfl, _, rfl, x, y, n, ts, rs, d, rfl, h⟩
end
end Y
set_option Elab.async false
set_option linter.all false
set_option maxRecDepth 100000
set_option maxHeartbeats 2000000
namespace Y
open PySem L2
/-! ### judges of told values; objects of outs with nothing in them -/
abbrev sFroz : Stmt := top 4
abbrev sOInit : Stmt := inClass (top 26) 0
abbrev sFT : Stmt := top 31
abbrev sFTs : Stmt := top 32
abbrev sClo : Stmt := top 33
/-- of no kind of tuple -/
def NoTup (K : PySem.W.Frag) (H : Hp) (v : V) : Prop := ∃ t, TyX K H v t ∧ PySem.W.kitOne K t (.type "tuple") = some false
theorem no_tup {K : PySem.W.Frag} {H : Hp} {d : PyData} {v : V} (h : Dq K H d v) (n : isTupB d = false) : NoTup K H v := by
  refine ⟨_, dq_ty h, ?_⟩
  cases d with
  | tuple _ => cases n
  | none => exact kit_ty (show kitB "NoneType" "tuple" = some false by decide +kernel)
  | bool _ => exact kit_ty (show kitB "bool" "tuple" = some false by decide +kernel)
  | int _ => exact kit_ty (show kitB "int" "tuple" = some false by decide +kernel)
  | str _ => exact kit_ty (show kitB "str" "tuple" = some false by decide +kernel)
  | list _ => exact kit_ty (show kitB "list" "tuple" = some false by decide +kernel)
  | dict _ => exact kit_ty (show kitB "dict" "tuple" = some false by decide +kernel)
/-- a tuple of data that is no filled row, or none -/
def FT1 (K : PySem.W.Frag) (H : Hp) (n : Nat) (v : V) (b : Bool) : Prop := (∃ d, Dq K H d v ∧ isTupB d = false ∧ b = false) ∨ ∃ es, Dq K H (.tuple es) v ∧ es.length < 64 ∧ filB n (.tuple es) = b
structure OCls (K : PySem.W.Frag) (C : Addr) : Prop where
  c : Cls K C
  h : NoAttr K C "home"
  r : NoAttr K C "rows"
  w : NoAttr K C "ways"
def spFro : Sp := fun vs H Q _ => vs = [.non] ∧ Q .non H
def spOInit (K : PySem.W.Frag) : Sp := fun vs H Q _ => ∃ (x C dx : Addr), vs = [.ref x, .non, .non, .non] ∧ OCls K C ∧ H x = some (.ins C dx []) ∧
  ∀ H' fs, H' x = some (.ins C dx fs) → fs.lookup ("home" : Str) = some .non → (∀ b o, b ≠ x → H b = some o → H' b = some o) → Q .non H'
def spFT (K : PySem.W.Frag) : Sp := fun vs H Q _ => ∃ (x : Addr) (v : V) (n : Nat) (ts : List (Int × Int)) (rs : List (List Int)) (b : Bool), vs = [.ref x, v] ∧ YObj K H x n ts rs ∧ FT1 K H n v b ∧ ∀ H', Same H H' → Q (.bl b) H'
def spFTs (K : PySem.W.Frag) : Sp := fun vs H Q _ => ∃ (x : Addr) (v : V) (n : Nat) (ts : List (Int × Int)) (rs : List (List Int)) (b : Bool), vs = [.ref x, v] ∧ YObj K H x n ts rs ∧
  ((NoTup K H v ∧ b = false) ∨ ∃ a es, v = .ref a ∧ SqT K H a es ∧ ((es = [] ∧ b = true) ∨ ∃ e, es = [e] ∧ FT1 K H n e b)) ∧ ∀ H', Same H H' → Q (.bl b) H'
def spClo (K : PySem.W.Frag) : Sp := fun vs H Q _ => ∃ (x : Addr) (v : V) (n : Nat) (ts : List (Int × Int)) (rs : List (List Int)) (b : Bool), vs = [.ref x, v] ∧ YObj K H x n ts rs ∧
  ((NoTup K H v ∧ b = false) ∨ ∃ a es, v = .ref a ∧ SqT K H a es ∧ ((es = [] ∧ b = true) ∨ (b = false ∧ ∃ e, es = [e] ∧ FT1 K H n e false))) ∧ ∀ H', Same H H' → Q (.bl b) H'
section
variable {P : Program} {w : World} {K : PySem.W.Frag} {mg : Str → Option Value} {base : Heap} {fFil fFro fFT fFTs fSt fLot fLost CO : Addr}
theorem scFroz : FnScope ["value"] ["value"] (defScope sFroz) := ⟨rfl, rfl, rfl, by decide +kernel, rfl, by decide +kernel, by decide +kernel⟩
theorem ok_froz {f : Addr} {fd : FuncData} (F : Fun K "frozen" "frozen" sFroz f fd) (T : TI0 mg) : FnOk P w K mg base CX0 1 f fd ["value"] spFro := by
  refine F.ok scFroz (fun vs H Q E h => ?_) (fun cdv A outer s H vs Q E hr h => ?_)
  · obtain ⟨rfl, _⟩ := h
    rfl
  · obtain ⟨rfl, k⟩ := h
    refine ⟨_, pss_one (ps_ret (pe_ifExp (pt_val (pe_callB call_isi (by rfl) T.isi (by decide +kernel) (pa_cons (pv 0) (pa_cons (pbT (n := "list") T.list (by decide +kernel)) pa_nil)))) pe_never (pv 0))), ?_⟩
    exact ⟨_, rfl, .non, .ty "list", _, _, false, rfl, ClsV.ty _, .base .non, kit_ty (by decide +kernel), _, rfl, iteF ⟨_, rfl, k⟩⟩
theorem scOInit : FnScope ["self", "home", "rows", "ways"] ["self", "home", "rows", "ways"] (defScope sOInit) := ⟨rfl, rfl, rfl, by decide +kernel, rfl, by decide +kernel, by decide +kernel⟩
theorem ok_oinit {f : Addr} {fd fdF : FuncData} (F : Fun K "__init__" "Outs.__init__" sOInit f fd) (gF : mg "frozen" = some (.ref fFro)) (GF : FnOk P w K mg base CX0 1 fFro fdF ["value"] spFro) (FF : Fun K "frozen" "frozen" sFroz fFro fdF) (bF : Binds K fdF ["value"] []) :
    FnOk P w K mg base CX0 2 f fd ["self", "home", "rows", "ways"] (spOInit K) := by
  refine F.ok scOInit (fun vs H Q E h => ?_) (fun cdv A outer s H vs Q E hr h => ?_)
  · obtain ⟨x, C, dx, rfl, _⟩ := h
    rfl
  · obtain ⟨x, C, dx, rfl, oc, hx, k⟩ := h
    refine ⟨_, pss_cons (ps_fld (pv 0) (pe_call GF hr (by rfl) gF FF.kp bF .nil pass0 (pa_cons (pv 1) pa_nil)) rfl)
      (pss_cons (ps_fld (pv 0) (pe_call GF hr (by rfl) gF FF.kp bF .nil pass0 (pa_cons (pv 2) pa_nil)) rfl)
      (pss_one (ps_fld (pv 0) (pe_call GF hr (by rfl) gF FF.kp bF .nil pass0 (pa_cons (pv 3) pa_nil)) rfl))), ?_⟩
    refine ⟨_, rfl, rfl, _, rfl, x, C, dx, [], rfl, hx, oc.c, oc.h, (by show 0 < 1000; decide), ?_⟩
    refine ⟨_, rfl, rfl, _, rfl, x, C, dx, _, rfl, upd_same, oc.c, oc.r, (by show 1 < 1000; decide), ?_⟩
    refine ⟨_, rfl, rfl, _, rfl, x, C, dx, _, rfl, upd_same, oc.c, oc.w, (by show 2 < 1000; decide), ?_⟩
    refine k _ _ upd_same ?_ fun b o nb e => by rw [upd_ne nb, upd_ne nb, upd_ne nb]; exact e
    rw [lookup_putF, if_neg (by decide +kernel), lookup_putF, if_neg (by decide +kernel), lookup_putF, if_pos rfl]
theorem scFT : FnScope ["yard", "value"] ["yard", "value"] (defScope sFT) := ⟨rfl, rfl, rfl, by decide +kernel, rfl, by decide +kernel, by decide +kernel⟩
theorem ok_ft {f : Addr} {fd fdF : FuncData} (F : Fun K "is_filled_tuple" "is_filled_tuple" sFT f fd) (T : TI0 mg) (gF : mg "is_filled_row" = some (.ref fFil)) (GF : FnOk P w K mg base CX0 4 fFil fdF ["yard", "value"] (spFilD K)) (FF : Fun K "is_filled_row" "is_filled_row" sIsFilled fFil fdF) (bF : Binds K fdF ["yard", "value"] []) :
    FnOk P w K mg base CX0 5 f fd ["yard", "value"] (spFT K) := by
  refine F.ok scFT (fun vs H Q E h => ?_) (fun cdv A outer s H vs Q E hr h => ?_)
  · obtain ⟨x, v, n, ts, rs, b, rfl, _⟩ := h
    rfl
  · obtain ⟨x, v, n, ts, rs, b, rfl, hy, hv, k⟩ := h
    refine ⟨_, pss_one (ps_ret (pe_and (pe_callB call_isi (by rfl) T.isi (by decide +kernel) (pa_cons (pv 1) (pa_cons (pbT (n := "tuple") T.tuple (by decide +kernel)) pa_nil))) (pe_one (pe_call GF hr (by rfl) gF FF.kp bF .nil pass0 (pa_cons (pv 0) (pa_cons (pv 1) pa_nil)))))), ?_⟩
    rcases hv with ⟨d, hd, e, rfl⟩ | ⟨es, hd, sh, rfl⟩
    · obtain ⟨t, ty, e⟩ := no_tup hd e
      exact ⟨_, rfl, v, .ty "tuple", t, _, false, rfl, ClsV.ty _, ty, e, false, rfl, iteF (k H (Same.refl' _))⟩
    · exact ⟨_, rfl, v, .ty "tuple", _, _, true, rfl, ClsV.ty _, dq_ty hd, kit_ty (show kitB "tuple" "tuple" = some true by decide +kernel), true, rfl, iteT ⟨_, rfl, _, rfl, x, v, n, ts, rs, .tuple es, rfl, hy, hd, (fun es' e => by cases Option.some.inj e; exact sh), fun H' s' => k H' s'⟩⟩
theorem scFTs : FnScope ["yard", "value", "row"] ["yard", "value"] (defScope sFTs) := ⟨rfl, rfl, rfl, by decide +kernel, rfl, by decide +kernel, by decide +kernel⟩
theorem ok_fts {f : Addr} {fd fdF : FuncData} (F : Fun K "are_filled_tuples" "are_filled_tuples" sFTs f fd) (T : TI0 mg) (gA : mg "all" = none) (gF : mg "is_filled_tuple" = some (.ref fFT)) (GF : FnOk P w K mg base CX0 5 fFT fdF ["yard", "value"] (spFT K)) (FF : Fun K "is_filled_tuple" "is_filled_tuple" sFT fFT fdF) (bF : Binds K fdF ["yard", "value"] []) :
    FnOk P w K mg base CX0 6 f fd ["yard", "value"] (spFTs K) := by
  refine F.ok scFTs (fun vs H Q E h => ?_) (fun cdv A outer s H vs Q E hr h => ?_)
  · obtain ⟨x, v, n, ts, rs, b, rfl, _⟩ := h
    rfl
  · obtain ⟨x, v, n, ts, rs, b, rfl, hy, hv, k⟩ := h
    refine ⟨_, pss_one (ps_ret (pe_and (pe_callB call_isi (by rfl) T.isi (by decide +kernel) (pa_cons (pv 1) (pa_cons (pbT (n := "tuple") T.tuple (by decide +kernel)) pa_nil))) (pe_one (pe_callB (cr_all rfl) (by rfl) gA (by decide +kernel) (pa_cons
      (pe_lc (own := [("row", 2)]) (g := gName 2) (tt := tYes) rfl scFTs.nd (pi_tup (pv 1)) (blkOk_by (N := ["yard", "value", "row"]) (sc := defScope sFTs) (by decide +kernel)) (fun _ _ _ _ _ => pg_name (i := 2) scFTs.nd rfl (Or.inl rfl)) (fun _ _ _ _ _ => pts_nil)
        (fun _ _ _ _ _ => pe_call GF hr (by rfl) gF FF.kp bF .nil pass0 (pa_cons (pv 0) (pa_cons (pv 2) pa_nil)))) pa_nil))))), ?_⟩
    rcases hv with ⟨⟨t, ty, e⟩, rfl⟩ | ⟨a, es, rfl, ha, hes⟩
    · exact ⟨_, rfl, v, .ty "tuple", t, _, false, rfl, ClsV.ty _, ty, e, false, rfl, iteF (k H (Same.refl' _))⟩
    · refine ⟨_, rfl, .ref a, .ty "tuple", _, _, true, rfl, ClsV.ty _, ty_tup ha, kit_ty (by decide +kernel), true, rfl, iteT ⟨_, rfl, a, rfl, ⟨_, ha⟩, fun D nD => ?_⟩⟩
      refine lc_it (walk_tup (K := K) (a := a) (xs := es)) (fun i H' => H' D = some (.lst ((es.take i).map fun _ => V.bl b)) ∧ Same H H') ⟨upd_same, Same.new nD⟩ (fun i H' _ h => Same.seqT h.2 ha) ?_ ?_
      · rintro i x' H1 H1' hi ⟨eD, s1⟩ ⟨rfl, hx⟩
        refine ⟨rfl, yes_if ?_⟩
        rcases hes with ⟨rfl, _⟩ | ⟨e, rfl, he⟩
        · exact absurd hi (Nat.not_lt_zero _)
        · obtain rfl : i = 0 := Nat.lt_one_iff.mp hi
          obtain rfl : x' = e := (Option.some.inj hx).symm
          refine ⟨_, rfl, _, rfl, x, x', n, ts, rs, b, rfl, hy.kp (.of_same s1), ?_, fun H' s' => ⟨_, s' _ _ eD, (by show 0 < sizeLine; decide), upd_same, Same.upd_new (s1.trans s') nD⟩⟩
          rcases he with ⟨d, hd, e1, e2⟩ | ⟨ds, hd, l, e2⟩
          · exact .inl ⟨d, Dq.kp s1 hd, e1, e2⟩
          · exact .inr ⟨ds, Dq.kp s1 hd, l, e2⟩
      · rintro H1 ⟨eD, s1⟩
        refine ⟨D, es.map fun _ => b, rfl, SqL.of (by rw [eD, List.take_length, List.map_map]; rfl), ?_⟩
        rcases hes with ⟨rfl, rfl⟩ | ⟨e, rfl, he⟩
        · exact k _ s1
        · rw [show (([e] : List V).map fun _ => b).all id = b by show (b && true) = b; rw [Bool.and_true]]
          exact k _ s1
end
end Y
set_option Elab.async false
set_option linter.all false
set_option maxRecDepth 100000
set_option maxHeartbeats 2000000
namespace Y
open PySem L2
abbrev NClo : List Str := ["yard", "rows", "known", "row", "_", "behind"]
/-- an object of an own class, as it is asked of its kind -/
structure OwnK (K : PySem.W.Frag) (C : Addr) : Prop where
  ha : PySem.W.findIn K (.ref C) "__class__" = some (some (.builtin "object.__class__"))
  hn : PySem.W.specialIn K (.builtin "object.__class__") "__get__" = some (some (.builtin "getset_descriptor.__get__"))
  htk : PySem.W.takesIn K (.builtin "object.__class__") = some true
  hm : PySem.W.mroIn K C (.type "object") = some true
/-- told values: no outs at all, or outs with nothing in them -/
def ToldV (K : PySem.W.Frag) (CO : Addr) (H : Hp) (v : V) : Prop := (∃ t, TyX K H v t ∧ PySem.W.kitOne K t (.ref CO) = some false) ∨ ∃ x dx fs, v = .ref x ∧ H x = some (.ins CO dx fs) ∧ fs.lookup ("home" : Str) = some .non
def spAre (K : PySem.W.Frag) (CO : Addr) : Sp := fun vs H Q _ => ∃ (x : Addr) (y t : V) (n : Nat) (ts : List (Int × Int)) (rs : List (List Int)) (r : List Int), vs = [.ref x, y, t] ∧ YObj K H x n ts rs ∧ YP n ts rs ∧ n ≤ 5 ∧ RowV H y r ∧ FilOk n r ∧
  (∀ H', Same H H' → ToldV K CO H' t) ∧ ∀ H', Same H H' → Q (.bl false) H'
theorem pt_never {X : Cx} {c : Expr} : PT X c (fun _ _ _ => False) := ⟨fun pins s σ H Q I h => h.elim⟩
section
variable {P : Program} {w : World} {K : PySem.W.Frag} {mg : Str → Option Value} {base : Heap} {fFil fFro fFT fFTs fSt fLot fLost CO : Addr}
theorem scClo : FnScope NClo ["yard", "rows"] (defScope sClo) := ⟨rfl, rfl, rfl, by decide +kernel, rfl, by decide +kernel, by decide +kernel⟩
theorem ok_clo {f : Addr} {fd fdF : FuncData} (F : Fun K "is_closed" "is_closed" sClo f fd) (gA : mg "all" = none) (gL : mg "len" = none) (gSet : mg "set" = none)
    (gF : mg "are_filled_tuples" = some (.ref fFTs)) (GF : FnOk P w K mg base CX0 6 fFTs fdF ["yard", "value"] (spFTs K)) (FF : Fun K "are_filled_tuples" "are_filled_tuples" sFTs fFTs fdF) (bF : Binds K fdF ["yard", "value"] []) :
    FnOk P w K mg base CX0 7 f fd ["yard", "rows"] (spClo K) := by
  refine F.ok scClo (fun vs H Q E h => ?_) (fun cdv A outer s H vs Q E hr h => ?_)
  · obtain ⟨x, v, n, ts, rs, b, rfl, _⟩ := h
    rfl
  · obtain ⟨x, v, n, ts, rs, b, rfl, hy, hv, k⟩ := h
    refine ⟨_, pss_cons (ps_if (pt_not (pt_val (pe_call GF hr (by rfl) gF FF.kp bF .nil pass0 (pa_cons (pv 0) (pa_cons (pv 1) pa_nil))))) (pss_one (ps_ret pe_bl)) pss_nil)
      (pss_cons (ps_set (i := 2) scClo.nd rfl (Or.inr rfl) (pe_callTy (cr_setNil rfl) (by rfl) gSet (by decide +kernel) (pa_cons (pv 1) pa_nil)))
      (pss_cons (ps_if (pt_cmpR op_ne (pe_callB cr_lenSet (by rfl) gL PySem.boot_len (pa_cons (pv 2) pa_nil)) (pe_callB call_len_seq (by rfl) gL PySem.boot_len (pa_cons (pv 1) pa_nil)) (nomark _)) (pss_one ps_never) pss_nil)
      (pss_one (ps_ret (pe_callB (cr_all rfl) (by rfl) gA (by decide +kernel) (pa_cons
        (pe_lc2 (own := [("row", 3), ("_", 4), ("behind", 5)]) (vs1 := [4, 5]) (g := gName 3) (tt := tYes) (g1 := gTup K 2 (gCons (gName 4) (gCons (gName 5) gNil))) (tt1 := tYes) rfl scClo.nd (pi_tup (pv 1)) (blkOk_by (N := NClo) (sc := defScope sClo) (by decide +kernel)) (by decide)
          (fun _ _ _ _ _ => pg_name (i := 3) scClo.nd rfl (Or.inl rfl)) (fun _ _ _ _ _ => pts_nil) (fun _ _ _ _ _ => pi_listK (K := K) rfl pe_never)
          (fun _ _ _ _ _ => pgT (K := K) (n := 2) rfl rfl (pgs_cons (pg_name (i := 4) scClo.nd rfl (Or.inl rfl)) (pgs_cons (pg_name (i := 5) scClo.nd rfl (Or.inl rfl)) pgs_nil)) rfl rfl) (fun _ _ _ _ _ => pts_nil) (fun _ _ _ _ _ => pe_never)) pa_nil)))))), ?_⟩
    rcases hv with ⟨nt, rfl⟩ | ⟨a, es, rfl, ha, hes⟩
    · exact ⟨_, rfl, _, rfl, x, v, n, ts, rs, false, rfl, hy, .inl ⟨nt, rfl⟩, fun H' s' => ⟨_, rfl, iteT (k H' s')⟩⟩
    · rcases hes with ⟨rfl, rfl⟩ | ⟨rfl, e, rfl, he⟩
      · refine ⟨_, rfl, _, rfl, x, .ref a, n, ts, rs, true, rfl, hy, .inr ⟨a, [], rfl, ha, .inl ⟨rfl, rfl⟩⟩, fun H1 s1 => ⟨_, rfl, iteF ?_⟩⟩
        have ha1 := Same.seqT s1 ha
        refine ⟨_, rfl, a, rfl, ha1, fun p np => ?_⟩
        have s2 := Same.new (o := SetO w p (fun j => decide (j ∈ ([] : List Int))) 0) np
        have ep : (upd H1 p (SetO w p (fun j => decide (j ∈ ([] : List Int))) 0)) p = some (SetO w p (fun j => decide (j ∈ ([] : List Int))) 0) := upd_same
        refine ⟨_, rfl, p, _, 0, rfl, ep, _, rfl, a, [], rfl, .inr (Same.seqT s2 ha1), rfl, _, rfl, iteF' (show (!decide (V.int ((0 : Nat) : Int) = V.int ((([] : List V).length : Nat) : Int))) = false by rw [show ((([] : List V).length : Nat) : Int) = ((0 : Nat) : Int) from rfl, decide_eq_true rfl]; rfl) ?_⟩
        refine ⟨_, rfl, a, rfl, ⟨_, Same.seqT s2 ha1⟩, fun D nD => ?_⟩
        refine walk_w (walk_tup (K := K) (a := a) (xs := [])) (fun i H' => H' D = some (.lst []) ∧ Same (upd H1 p (SetO w p (fun j => decide (j ∈ ([] : List Int))) 0)) H') ⟨upd_same, Same.new nD⟩ (fun i H' _ h => Same.seqT h.2 (Same.seqT s2 ha1)) ?_ ?_
        · rintro i x' H3 H3' hi
          exact absurd hi (Nat.not_lt_zero _)
        · rintro H3 ⟨eD, s3⟩
          exact ⟨D, [], rfl, SqL.of eD, k _ ((s1.trans s2).trans s3)⟩
      · exact ⟨_, rfl, _, rfl, x, .ref a, n, ts, rs, false, rfl, hy, .inr ⟨a, [e], rfl, ha, .inr ⟨e, rfl, he⟩⟩, fun H' s' => ⟨_, rfl, iteT (k H' s')⟩⟩
theorem ok_are {f : Addr} {fd fdL fdLo fdF : FuncData} (F : Fun K "are_outs" "are_outs" sAre f fd) (T : TI0 mg) (gO : mg "Outs" = some (.ref CO)) (oc : OCls K CO) (ok_ : OwnK K CO) (own : PySem.W.kitOne K (.ref CO) (.ref CO) = some true)
    (gL : mg "lost_tie" = some (.ref fLost)) (GL : FnOk P w K mg base CX0 9 fLost fdL ["yard", "row"] (spLost K)) (FL : Fun K "lost_tie" "lost_tie" sLost fLost fdL) (bL : Binds K fdL ["yard", "row"] [])
    (gLo : mg "lot_of" = some (.ref fLot)) (GLo : FnOk P w K mg base CX0 8 fLot fdLo ["yard", "row"] (spLot K)) (FLo : Fun K "lot_of" "lot_of" sLot fLot fdLo) (bLo : Binds K fdLo ["yard", "row"] [])
    (gF : mg "is_filled_tuple" = some (.ref fFT)) (GF : FnOk P w K mg base CX0 5 fFT fdF ["yard", "value"] (spFT K)) (FF : Fun K "is_filled_tuple" "is_filled_tuple" sFT fFT fdF) (bF : Binds K fdF ["yard", "value"] []) :
    FnOk P w K mg base CX0 10 f fd ["yard", "row", "told"] (spAre K CO) := by
  refine F.ok scAre (fun vs H Q E h => ?_) (fun cdv A outer s H vs Q E hr h => ?_)
  · obtain ⟨x, y, t, n, ts, rs, r, rfl, _⟩ := h
    rfl
  · obtain ⟨x, y, t, n, ts, rs, r, rfl, hy, yp, n5, hrow, fok, ht, k⟩ := h
    have hr8 : Room 8 _ := hr.mono (by decide)
    have hr5 : Room 5 _ := hr.mono (by decide)
    refine ⟨_, pss_cons (ps_if (PW.pt (pw_or (pt_cmp (pc_notN (pe_call GL hr (by rfl) gL FL.kp bL .nil pass0 (pa_cons (pv 0) (pa_cons (pv 1) pa_nil))))) (pw_or1 (pt_not (pt_val (pe_callB call_isi (by rfl) T.isi (by decide +kernel) (pa_cons (pv 2) (pa_cons (pgR gO) pa_nil)))))))) (pss_one (ps_ret pe_bl)) pss_nil)
      (pss_cons (ps_set (i := 3) scAre.nd rfl (Or.inl rfl) (pe_call GLo hr8 (by rfl) gLo FLo.kp bLo .nil pass0 (pa_cons (pv 0) (pa_cons (pv 1) pa_nil))))
      (pss_cons (ps_set (i := 4) scAre.nd rfl (Or.inr rfl) (pe_ix ix_tup (pv 3) pe_int (fun _ _ => rfl)))
      (pss_cons (ps_if (PW.pt (pw_or (pt_not (pt_val (pe_call GF hr5 (by rfl) gF FF.kp bF .nil pass0 (pa_cons (pv 0) (pa_cons (pe_fld (pv 2) rfl) pa_nil))))) (pw_or1 pt_never))) (pss_one (ps_ret pe_bl)) pss_nil)
      (pss_cons ps_never (pss_cons ps_never (pss_cons ps_never (pss_one ps_never))))))), ?_⟩
    refine ⟨_, rfl, _, rfl, x, y, n, ts, rs, r, rfl, hy, yp, n5, hrow, fok, fun v H1 hv s1 => ?_⟩
    have fin : ∀ H2, Same H1 H2 → Q (.bl false) H2 := fun H2 s2 => k H2 (s1.trans s2)
    rcases hv with rfl | ⟨a, xs, rfl, ea⟩
    · refine ⟨_, rfl, iteF ?_⟩
      rcases ht H1 s1 with ⟨t', ty, e⟩ | ⟨z, dx, fs, rfl, hz, lh⟩
      · exact ⟨_, rfl, t, .ref CO, t', _, false, rfl, ClsV.own _, ty, e, _, rfl, iteT (fin H1 (Same.refl' _))⟩
      · refine ⟨_, rfl, .ref z, .ref CO, _, _, true, rfl, ClsV.own _, .base (TyOf.ins hz oc.c ok_.ha ok_.hn ok_.htk ok_.hm), own, _, rfl, iteF ?_⟩
        refine ⟨_, rfl, _, rfl, x, y, n, ts, rs, r, rfl, hy.kp (.of_same s1), yp, by omega, hrow.kp fun b xs => s1 b _, fok, fun l ys L H2 el pl hL s2 => ?_⟩
        have sm := hL.start
        have ly := Paired.length pl
        have ln : 0 < ys.length := by rw [ly]; exact List.length_pos_of_mem sm
        refine ⟨_, rfl, l, ys, ((0 : Nat) : Int), _, rfl, rfl, SqT.of el, atI_nat (j := 0) (List.getElem?_eq_getElem ln), ?_⟩
        refine ⟨_, rfl, _, rfl, z, CO, dx, fs, _, rfl, s2 _ _ hz, oc.c, oc.h, lh, ?_⟩
        exact ⟨x, .non, n, ts, rs, false, rfl, (hy.kp (.of_same s1)).kp (.of_same s2), .inl ⟨.none, .non, rfl, rfl⟩, fun H3 s3 => ⟨_, rfl, iteT (fin H3 (s2.trans s3))⟩⟩
    · exact ⟨_, rfl, iteT (fin H1 (Same.refl' _))⟩
end
end Y
set_option Elab.async false
set_option linter.all false
set_option maxRecDepth 100000
set_option maxHeartbeats 2000000
namespace Y
open PySem L2
abbrev sLF : Stmt := top 50
abbrev sSRow : Stmt := top 57
abbrev NLF : List Str := ["_law_stand", "_law_place"]
theorem ix_tupK {X : Cx} {K : PySem.W.Frag} (e : X.K = K) : IxR X (rIxT K) := by
  subst e
  exact ix_tup
def spLF (K : PySem.W.Frag) : Sp := fun vs H Q _ => ∃ (a : Addr) (st : List Int), vs = [.ref a] ∧ SqT K H a (st.map V.int) ∧ st.length ≤ 100 ∧ ∀ t r H', H' t = some (.tup (r.map V.int)) → FilOk st.length r → Same H H' → Q (.ref t) H'
def spSRow (K : PySem.W.Frag) : Sp := fun vs H Q _ => ∃ (p c : Addr) (n b : Nat), vs = [.ref p, .int (n : Int)] ∧ Pen H p c (b + 2 * n + 1) ∧ n ≤ 60 ∧ ∀ t r H', H' t = some (.tup (r.map V.int)) → FilOk n r → Kp H H' → Pen H' p c b → Q (.ref t) H'
theorem fil_snoc {i : Nat} {r : List Int} (h : FilOk i r) : FilOk (i + 1) (r ++ [((i : Nat) : Int)]) := by
  refine ⟨?_, fun z hz => ?_⟩
  · rw [List.pairwise_append]
    refine ⟨h.asc, List.pairwise_singleton _ _, fun a ha b hb => ?_⟩
    rw [List.mem_singleton.mp hb]
    exact (h.inn a ha).2
  · rcases List.mem_append.mp hz with hz | hz
    · have := h.inn z hz
      omega
    · rw [List.mem_singleton.mp hz]
      omega
theorem fil_up {i : Nat} {r : List Int} (h : FilOk i r) : FilOk (i + 1) r := ⟨h.asc, fun z hz => by have := h.inn z hz; omega⟩
section
variable {P : Program} {w : World} {K : PySem.W.Frag} {mg : Str → Option Value} {base : Heap} {fDraw fPick fStand fLF : Addr}
theorem scLF : FnScope NLF ["_law_stand"] (defScope sLF) := ⟨rfl, rfl, rfl, by decide +kernel, rfl, by decide +kernel, by decide +kernel⟩
theorem ok_lf {f : Addr} {fd : FuncData} (F : Fun K "_law_filled" "_law_filled" sLF f fd) (gT : mg "tuple" = none) (gR : mg "range" = none) (gL : mg "len" = none) : FnOk P w K mg base CX0 1 f fd ["_law_stand"] (spLF K) := by
  refine F.ok scLF (fun vs H Q E h => ?_) (fun cdv A outer s H vs Q E hr h => ?_)
  · obtain ⟨a, st, rfl, _⟩ := h
    rfl
  · obtain ⟨a, st, rfl, ha, ls, k⟩ := h
    refine ⟨_, pss_one (ps_ret (pe_callTy call_tuple_of (by rfl) gT (by decide +kernel) (pa_cons
      (pe_lc (own := [("_law_place", 1)]) (g := gName 1) rfl scLF.nd (pi_range1 (by rfl) gR (pa_cons (pe_callB call_len_seq (by rfl) gL PySem.boot_len (pa_cons (pv 0) pa_nil)) pa_nil)) (blkOk_by (N := NLF) (sc := defScope sLF) (by decide +kernel))
        (fun _ _ _ _ _ => pg_name (i := 1) scLF.nd rfl (Or.inl rfl)) (fun _ _ _ _ _ => pts_one (pt_cmpR op_gt (pe_ix (ix_tupK (K := K) rfl) (pv 0) (pv 1) (fun _ _ => rfl)) pe_int (nomark _))) (fun _ _ _ _ _ => pv 1)) pa_nil))), ?_⟩
    refine ⟨_, rfl, a, st.map V.int, rfl, .inr ha, _, rfl, by rw [List.length_map]; omega, by rw [List.length_map]; omega, fun D nD => ?_⟩
    refine lc_range (lo := 0) (n := (((st.map V.int).length : Nat) : Int).toNat) (fun i H' => ∃ r : List Int, H' D = some (.lst (r.map V.int)) ∧ FilOk i r ∧ r.length ≤ i ∧ Same H H') ⟨[], upd_same, ⟨.nil, fun z hz => by cases hz⟩, Nat.le_refl 0, Same.new nD⟩ (fun i H1 hi h => ?_) (fun H1 h => ?_)
    · obtain ⟨r, eD, fo, lr, s1⟩ := h
      rw [List.length_map] at hi
      have hi : i < st.length := by omega
      have hx : (st.map V.int)[i]? = some (.int st[i]) := by rw [List.getElem?_map, List.getElem?_eq_getElem hi]; rfl
      refine ⟨rfl, ?_⟩
      refine ⟨_, rfl, _, rfl, a, st.map V.int, ((i : Nat) : Int), _, rfl, by rw [Int.zero_add], Same.seqT s1 ha, atI_nat (j := i) hx, _, _, rfl, rfl, _, rfl, ?_⟩
      dsimp only
      split
      · refine ⟨_, rfl, r.map V.int, eD, by rw [List.length_map]; exact Nat.lt_of_lt_of_le (by omega : r.length < 101) (by decide), r ++ [((i : Nat) : Int)], ?_, fil_snoc fo, by rw [List.length_append]; exact Nat.succ_le_succ lr, Same.upd_new s1 nD⟩
        rw [upd_same, List.map_append, Int.zero_add]
        rfl
      · exact ⟨r, eD, fil_up fo, Nat.le_succ_of_le lr, s1⟩
    · obtain ⟨r, eD, fo, lr, s1⟩ := h
      rw [show (((st.map V.int).length : Nat) : Int).toNat = st.length by rw [List.length_map]; omega] at fo
      refine ⟨D, _, rfl, .inl ⟨SqL.of eD, fun t nt => ?_⟩⟩
      exact k t r _ upd_same fo (s1.trans (Same.new nt))
theorem scSRow : FnScope ["_law_pen_here", "_law_places", "_law_holes"] ["_law_pen_here", "_law_places"] (defScope sSRow) := ⟨rfl, rfl, rfl, by decide +kernel, rfl, by decide +kernel, by decide +kernel⟩
theorem ok_srow {f : Addr} {fd fdK fdS fdF : FuncData} (F : Fun K "_law_some_row" "_law_some_row" sSRow f fd) (gM : mg "min" = none)
    (gK : mg "_law_pick" = some (.ref fPick)) (GK : FnOk P w K mg base CX0 2 fPick fdK ["_law_pen_here", "_law_some"] (spPick K)) (FK : Fun K "_law_pick" "_law_pick" sPick fPick fdK) (bK : Binds K fdK ["_law_pen_here", "_law_some"] [])
    (gS : mg "_law_drawn_stand" = some (.ref fStand)) (GS : FnOk P w K mg base CX0 2 fStand fdS ["_law_pen_here", "_law_places", "_law_holes", "_law_kinds"] (spStand K)) (FS : Fun K "_law_drawn_stand" "_law_drawn_stand" sStand fStand fdS) (bS : Binds K fdS ["_law_pen_here", "_law_places", "_law_holes", "_law_kinds"] [])
    (gF : mg "_law_filled" = some (.ref fLF)) (GF : FnOk P w K mg base CX0 1 fLF fdF ["_law_stand"] (spLF K)) (FF : Fun K "_law_filled" "_law_filled" sLF fLF fdF) (bF : Binds K fdF ["_law_stand"] []) :
    FnOk P w K mg base CX0 3 f fd ["_law_pen_here", "_law_places"] (spSRow K) := by
  refine F.ok scSRow (fun vs H Q E h => ?_) (fun cdv A outer s H vs Q E hr h => ?_)
  · obtain ⟨p, c, n, b, rfl, _⟩ := h
    rfl
  · obtain ⟨p, c, n, b, rfl, hP, n60, k⟩ := h
    have hr1 : Room 1 _ := hr.mono (by decide)
    refine ⟨_, pss_cons (ps_set (i := 2) scSRow.nd rfl (Or.inl rfl) (pe_call GK hr (by rfl) gK FK.kp bK .nil pass0 (pa_cons (pv 0) (pa_cons (pe_lst (pa_cons pe_int (pa_cons pe_int (pa_cons pe_int (pa_cons pe_int (pa_cons pe_int (pa_cons pe_int (pa_cons (pv 1) pa_nil)))))))) pa_nil))))
      (pss_one (ps_ret (pe_call GF hr1 (by rfl) gF FF.kp bF .nil pass0 (pa_cons (pe_call GS hr (by rfl) gS FS.kp bS .nil pass0 (pa_cons (pv 0) (pa_cons (pv 1) (pa_cons (pe_callB (cr_min rfl) (by rfl) gM (by decide +kernel) (pa_cons (pe_lst (pa_cons (pv 2) (pa_cons (pv 1) pa_nil))) pa_nil)) (pa_cons pe_bl pa_nil))))) pa_nil)))), ?_⟩
    refine ⟨_, rfl, _, rfl, (by show 7 ≤ sizeLine; decide), fun l nl => ?_⟩
    have sl := Same.new (o := .lst [V.int 0, .int 1, .int 1, .int 2, .int 2, .int 3, .int (n : Int)]) nl
    refine ⟨p, c, l, _, b + 2 * n, rfl, hP.same sl, .inl (SqL.of upd_same), (fun z => by cases z), (by show 7 ≤ 1000000; decide), fun x i H1 hx P1 B1 => ?_⟩
    obtain ⟨h, rfl, h0⟩ : ∃ h : Nat, x = .int (h : Int) ∧ h ≤ 100 := by
      have hx := List.mem_of_getElem? hx
      simp only [List.mem_cons, List.not_mem_nil, or_false] at hx
      rcases hx with rfl | rfl | rfl | rfl | rfl | rfl | rfl
      · exact ⟨0, rfl, by decide⟩
      · exact ⟨1, rfl, by decide⟩
      · exact ⟨1, rfl, by decide⟩
      · exact ⟨2, rfl, by decide⟩
      · exact ⟨2, rfl, by decide⟩
      · exact ⟨3, rfl, by decide⟩
      · exact ⟨n, rfl, by omega⟩
    refine gset_go (σ' := [some (.ref p), some (.int (n : Int)), some (.int (h : Int))]) rfl ?_
    dsimp only
    refine ⟨_, rfl, _, rfl, _, rfl, _, rfl, (by show 2 ≤ sizeLine; decide), fun l2 nl2 => ?_⟩
    have sl2 := Same.new (o := .lst (([(h : Int), (n : Int)] : List Int).map V.int)) nl2
    refine ⟨l2, [(h : Int), (n : Int)], rfl, SqL.of upd_same, by simp, fun m hm hmin => ?_⟩
    obtain ⟨m', rfl, hm'⟩ : ∃ m' : Nat, m = (m' : Int) ∧ m' ≤ n := by
      have h2 := hmin (n : Int) (by simp)
      simp only [List.mem_cons, List.not_mem_nil, or_false] at hm
      rcases hm with rfl | rfl
      · exact ⟨h, rfl, by omega⟩
      · exact ⟨n, rfl, by omega⟩
    refine ⟨p, c, n, m', b, false, rfl, P1.same sl2, hm', by omega, fun sa st H2 so es kp2 P2 => ?_⟩
    refine ⟨sa, st, rfl, SqT.of es, ?_, fun t r H3 et fo s3 => ?_⟩
    · rw [so.1]
      omega
    · rw [so.1] at fo
      obtain ⟨ms, a1, a2, a3, a4, h1, _⟩ := (hP.same sl).ex
      exact k t r H3 et fo ((((Kp.of_same sl).trans (Kp.of_but B1 h1)).trans (Kp.of_same sl2)).trans (kp2.trans (.of_same s3))) (P2.same s3)
end
end Y
set_option Elab.async false
set_option linter.all false
set_option maxRecDepth 100000
set_option maxHeartbeats 2000000
namespace Y
open PySem PySem.Spec PyProof.Rows L2 LamX
/-- all but l and the tables stands -/
def Stay (l : Addr) (H H' : Hp) : Prop := ∀ b o, b ≠ l → H b = some o → (∀ ps, o ≠ .tbl ps) → H' b = some o
theorem Stay.trans {l : Addr} {H H1 H2 : Hp} (a : Stay l H H1) (b : Stay l H1 H2) : Stay l H H2 := fun c o n e t => b c o n (a c o n e t) t
theorem Stay.of_same {l : Addr} {H H' : Hp} (s : Same H H') : Stay l H H' := fun b o _ e _ => s b o e
theorem Stay.of_ext {l : Addr} {H H' : Hp} (s : ExtN H H') : Stay l H H' := fun b o _ e t => s b o e t
theorem Stay.upd {l : Addr} {H : Hp} {o : HO} : Stay l H (upd H l o) := fun b u n e _ => by rw [upd_ne n]; exact e
section
variable {H HD H' : Hp} {l : Addr} {q : Str}
theorem Lean1.stay (s : Lean1 HD H) (n : HD l = none) (t : Stay l H H') : Lean1 HD H' := fun b o e h1 h2 h3 => t b o (fun z => by rw [z, n] at e; cases e) (s b o e h1 h2 h3) h2
theorem lamO_ne {f c' : Addr} {params : Arguments} {body : Expr} {scope : Scope} {cl : List (Str × Addr)} (ps : Array Value) : LamO f q params body scope cl c' ≠ .tbl ps := fun z => by
  unfold LamO at z
  cases z
/-- tables stand where a draw source's dict changes -/
theorem tabs_but {T : List (Addr × Str)} {p c : Addr} {b : Nat} (hT : Tabs T H) (s : But p H H') (hp : Pen H p c b) : Tabs T H' := fun z hz => by
  obtain ⟨a, g, cc, f, e⟩ := hp.pend
  have keep : ∀ b o, H b = some o → (∀ kvs, o ≠ .dK kvs) → H' b = some o := fun b o e1 n => s b o (fun z => by rw [z, e] at e1; exact n _ (Option.some.inj e1).symm) e1
  obtain ⟨ps, h1, h2, h3⟩ := hT z hz
  refine ⟨ps, keep _ _ h1 (fun _ z => by cases z), h2, fun pos cv hc => ?_⟩
  obtain ⟨c0, e1, e2⟩ := h3 pos cv hc
  exact ⟨c0, e1, keep _ _ e2 (fun _ z => by unfold CodeO at z; cases z)⟩
/-- the same where a list changes -/
theorem tabs_stay {T : List (Addr × Str)} {xs : List V} {o : HO} (hT : Tabs T H) (e : H l = some (.lst xs)) : Tabs T (upd H l o) := fun z hz => by
  have keep : ∀ b u, H b = some u → (∀ ys, u ≠ .lst ys) → upd H l o b = some u := fun b u e1 n => by
    rw [upd_ne fun z => by rw [z, e] at e1; exact n _ (Option.some.inj e1).symm]
    exact e1
  obtain ⟨ps, h1, h2, h3⟩ := hT z hz
  refine ⟨ps, keep _ _ h1 (fun _ z => by cases z), h2, fun pos cv hc => ?_⟩
  obtain ⟨c0, e1, e2⟩ := h3 pos cv hc
  exact ⟨c0, e1, keep _ _ e2 (fun _ z => by unfold CodeO at z; cases z)⟩
theorem tabS_kp {H H' : Hp} {Pp : Addr} {q : Str} (t : TabS H Pp q) (s : Kp H H') : TabS H' Pp q := by
  obtain ⟨ps, h1, h2, h3⟩ := t
  refine ⟨ps, s _ _ h1 (by intro _ z; cases z), h2, fun pos cv hc => ?_⟩
  obtain ⟨c, e1, e2⟩ := h3 pos cv hc
  exact ⟨c, e1, s _ _ e2 (by intro _ z; unfold CodeO at z; cases z)⟩
theorem tabs_kp {H H' : Hp} {T : List (Addr × Str)} (t : Tabs T H) (s : Kp H H') : Tabs T H' := fun p hp => tabS_kp (t p hp) s
end
def Agree (σ σ' : L2.St) : Prop := ∀ (i : Nat) (v : V), σ[i]? = some (some v) → σ'[i]? = some (some v)
/-- told of an error as ds: where H1 stands, E is all that is asked -/
def ErrGo (K : PySem.W.Frag) (CR CT CG CM CN : Addr) (ds : List PyData) (H1 : Hp) (E : XK) : Prop := ∀ (cls : Value) (dd : Addr) (fs : List (Str × V)) (ys : List V) (H' : Hp), Same H1 H' → H' dd = some (.xd fs) → Told CR CT CG CM CN fs cls ys → Dqs K H' ds ys → E cls (some dd) H'
section
variable {H : Hp} {l : Addr}
open Classical in
/-- the part of a heap that data lean on -/
noncomputable def leanOf (H : Hp) : Hp := fun b => match H b with
  | some o => if (∀ kvs, o = .dK kvs → kvs = []) ∧ (∀ ps, o ≠ .tbl ps) ∧ (∀ φ, o ≠ .ext φ) then some o else none
  | none => none
theorem leanOf_get {b : Addr} {o : HO} (e : leanOf H b = some o) : H b = some o ∧ (∀ kvs, o = .dK kvs → kvs = []) ∧ (∀ ps, o ≠ .tbl ps) ∧ (∀ φ, o ≠ .ext φ) := by
  unfold leanOf at e
  split at e
  · rename_i o' h
    split at e
    · rename_i c
      obtain rfl := Option.some.inj e
      exact ⟨h, c⟩
    · cases e
  · cases e
theorem lean_leanOf (H : Hp) : Lean1 H (leanOf H) := fun b o e h1 h2 h3 => by
  unfold leanOf
  rw [e]
  exact if_pos ⟨h1, h2, h3⟩
theorem leanOf_lean {H' : Hp} (s : Lean1 H H') : Lean1 (leanOf H) H' := fun b o e _ _ _ => by
  obtain ⟨e1, h1, h2, h3⟩ := leanOf_get e
  exact s b o e1 h1 h2 h3
theorem leanOf_none {H' : Hp} {a : Addr} (s : Lean1 H H') (n : H' a = none) : leanOf H a = none := by
  cases z : leanOf H a with
  | none => rfl
  | some o =>
    obtain ⟨e1, h1, h2, h3⟩ := leanOf_get z
    rw [s a o e1 h1 h2 h3] at n
    cases n
theorem pen_stay {H' : Hp} {p c : Addr} {b : Nat} {xs : List V} (h : Pen H p c b) (hc : c ≠ l) (el : H l = some (.lst xs)) (s : Stay l H H') : Pen H' p c b := by
  obtain ⟨ns, a, g, cc, f, h1, h2, r⟩ := h.ex
  refine ⟨⟨ns, a, g, cc, f, s _ _ (fun z => by rw [z, el] at h1; cases h1) h1 (fun _ z => by cases z), s _ _ hc h2 (fun _ z => by cases z), r⟩⟩
end
def tWhyS (X : Cx) (CR CT CG CM CN fWhy : Addr) (i : Nat) : TE := fun σ H Q => ∃ (f : Addr) (pre : Hp → Prop) (tl : XK → Hp → VK → Prop),
  σ[i]? = some (some (.ref f)) ∧ pre H ∧ (∀ H1 H2, Same H1 H2 → pre H1 → pre H2) ∧ (∀ cdg, Act X 12 NWhy "_law_why" (defScope sWhy) fWhy cdg "_law_call" σ H f pre tl) ∧ TTy CR CT CG CM CN tl H Q
theorem pe_whyS {X : Cx} {y : Str} {fWhy CR CT CG CM CN : Addr} {fdW : FuncData} {i : Nat} {p p2 pos : Pos} (hgw : Gl X "_law_why") (gWhy : X.mg "_law_why" = some (.ref fWhy)) (FW : Fun X.K "_law_why" "_law_why" sWhy fWhy fdW) (bW : L2.Binds X.K fdW ["_law_call"] [])
    (TW : TWy X.K X.mg CR CT CG CM CN) (hr : Room 13 X.A) (hN : X.N[i]? = some y) (hv : Vis X.env.scope y) (hd : (y == ("__debug__" : Str)) = false := by decide) (hcd : (y == ("__classdict__" : Str)) = false := by decide) :
    PE X (.Call (.Name "_law_why" p) [.Name y p2] [] pos) (tWhyS X CR CT CG CM CN fWhy i) := by
  obtain ⟨oc, od, kV, doc, pm, an, cdw, ct, osl, rfl, lkw, hcw⟩ := FW.ex
  have h := pe_stocall (TT := TTy CR CT CG CM CN) (k := 12) (a := "_law_call") (Ng := NWhy) (p := p) (p2 := p2) (pos := pos) hgw gWhy FW.kp lkw hcw bW scWhy (why_givesP TW) hr hN hv hd hcd
  refine ⟨fun pins s σ H Q I q => ?_⟩
  obtain ⟨f, pre, tl, h1, h2, h3, h4, h5⟩ := q
  exact h.run pins s σ H Q I ⟨f, pre, tl, h1, h2, h3, h4 _, h5⟩
/-- the body of a lambda whose maker's frame is alive is read -/
structure LiveLam (X : Cx) (params : Arguments) (body : Expr) (scope : Scope) (tb : XK → TE) : Prop where
  L : LamS X.env.scope scope
  bind : ∀ (pm cv ctv : Value), bindArgs (PySem.W.kla_fn "<lambda>" (X.env.qual ++ "<lambda>") params body scope (cloFrom X.env.cells scope.names []) pm cv ctv) ⟨[], []⟩ = pure []
  body : ∀ (f c' : Addr) (A : Around) (outer : List Env) (s : Shared) (H : Hp) (E : XK), Room 11 (A.deeper (lamEnv X scope s.heap.objs.size f c')) → PE (lamCx X A outer s H E scope f c') body (tb E)
section
variable {X : Cx} {CR CT CG CM CN fWhy l : Addr} {σ : L2.St} {H : Hp}
/-- a lambda of the law itself raises what is due -/
theorem why_live {i : Nat} {f c' : Addr} {params : Arguments} {body : Expr} {scope : Scope} {tb : XK → TE} {ds : List PyData} {Q : VK} (hi : σ[i]? = some (some (.ref f))) (L : LamS X.env.scope scope)
    (hbind : ∀ (pm cv ctv : Value), bindArgs (PySem.W.kla_fn "<lambda>" (X.env.qual ++ "<lambda>") params body scope (cloFrom X.env.cells scope.names []) pm cv ctv) ⟨[], []⟩ = pure [])
    (hbody : ∀ (A : Around) (outer : List Env) (s : Shared) (H : Hp) (E : XK), Room 11 (A.deeper (lamEnv X scope s.heap.objs.size f c')) → PE (lamCx X A outer s H E scope f c') body (tb E))
    (hf : H f = some (LamO f (X.env.qual ++ "<lambda>") params body scope (cloFrom X.env.cells scope.names []) c')) (hc : H c' = some (CodeO c' (X.env.qual ++ "<lambda>")))
    (go : ∀ (H1 : Hp) (E : XK) (R : VK), Same H H1 → ErrGo X.K CR CT CG CM CN ds H1 E → tb E σ H1 R) (k : ∀ (z : Addr) (H' : Hp), Same H H' → Dq X.K H' (.tuple ds) (.ref z) → Q (.ref z) H') : tWhyS X CR CT CG CM CN fWhy i σ H Q := by
  refine ⟨f, _, _, hi, ⟨hf, hc⟩, fun H1 H2 s ⟨a, b⟩ => ⟨s _ _ a, s _ _ b⟩, fun cdg => act_live (k := 11) L hbind hbody rfl (.inl rfl), ?_⟩
  intro q0 R nq0
  have s0 := Same.new (o := .tup [.str "none"]) nq0
  refine go _ _ _ s0 ?_
  intro cls dd fs ys H' sF edd told hd
  refine ⟨dd, fs, ys, rfl, edd, told, fun z nz => ?_⟩
  have sz := Same.new (o := .tup ys) nz
  exact k z _ ((s0.trans sF).trans sz) (.tup (SqT.of upd_same) (Dqs.kp sz hd))
end
/-! ### the law's lambdas -/
section
variable {X : Cx} {params : Arguments} {scope : Scope} {k : Nat} {f : Addr} {fd : FuncData} {sp : Sp}
theorem ll_2 {g x1 x2 a1 a2 : Str} {i1 i2 : Nat} {p p1 p2 p4 : Pos} (GL : FnOk X.prog X.w X.K X.mg X.base (L2.CX X.prog X.w) k f fd [a1, a2] sp) (hk : k ≤ 11) (gm : X.mg g = some (.ref f)) (kp : PySem.W.keepIn X.K (.ref f) = true) (bL : Binds X.K fd [a1, a2] []) (L : LamS X.env.scope scope) (gl : scope.names.lookup g = some .globalImplicit)
    (hb : ∀ (pm cv ctv : Value), bindArgs (PySem.W.kla_fn "<lambda>" (X.env.qual ++ "<lambda>") params (.Call (.Name g p) [.Name x1 p1, .Name x2 p2] [] p4) scope (cloFrom X.env.cells scope.names []) pm cv ctv) ⟨[], []⟩ = pure [])
    (n1 : X.N[i1]? = some x1) (w1 : Vis scope x1) (n2 : X.N[i2]? = some x2) (w2 : Vis scope x2)
    (d1 : (x1 == ("__debug__" : Str)) = false := by decide) (c1 : (x1 == ("__classdict__" : Str)) = false := by decide) (d2 : (x2 == ("__debug__" : Str)) = false := by decide) (c2 : (x2 == ("__classdict__" : Str)) = false := by decide) (d0 : (g == ("__debug__" : Str)) = false := by decide) :
    LiveLam X params (.Call (.Name g p) [.Name x1 p1, .Name x2 p2] [] p4) scope (fun E => tCall sp [] E (tCons (tVar i1) (tCons (tVar i2) tNil))) := by
  refine ⟨L, hb, fun f' c' A outer s H E hr => ?_⟩
  exact pe_call (X := lamCx X A outer s H E scope f' c') GL (hr.mono hk) gl gm kp bL .nil (passes_call (takes_of rfl rfl rfl rfl) fun _ _ _ _ h => h) (pa_cons (pe_var n1 w1 d1 c1) (pa_cons (pe_var n2 w2 d2 c2) pa_nil)) d0
theorem ll_2n {g x1 x2 a1 a2 a3 : Str} {i1 i2 k0 : Nat} {p p1 p2 p3 p4 : Pos} (GL : FnOk X.prog X.w X.K X.mg X.base (L2.CX X.prog X.w) k f fd [a1, a2, a3] sp) (hk : k ≤ 11) (gm : X.mg g = some (.ref f)) (kp : PySem.W.keepIn X.K (.ref f) = true) (bL : Binds X.K fd [a1, a2, a3] []) (L : LamS X.env.scope scope) (gl : scope.names.lookup g = some .globalImplicit)
    (hb : ∀ (pm cv ctv : Value), bindArgs (PySem.W.kla_fn "<lambda>" (X.env.qual ++ "<lambda>") params (.Call (.Name g p) [.Name x1 p1, .Name x2 p2, .Constant .none k0 p3] [] p4) scope (cloFrom X.env.cells scope.names []) pm cv ctv) ⟨[], []⟩ = pure [])
    (n1 : X.N[i1]? = some x1) (w1 : Vis scope x1) (n2 : X.N[i2]? = some x2) (w2 : Vis scope x2)
    (d1 : (x1 == ("__debug__" : Str)) = false := by decide) (c1 : (x1 == ("__classdict__" : Str)) = false := by decide) (d2 : (x2 == ("__debug__" : Str)) = false := by decide) (c2 : (x2 == ("__classdict__" : Str)) = false := by decide) (d0 : (g == ("__debug__" : Str)) = false := by decide) :
    LiveLam X params (.Call (.Name g p) [.Name x1 p1, .Name x2 p2, .Constant .none k0 p3] [] p4) scope (fun E => tCall sp [] E (tCons (tVar i1) (tCons (tVar i2) (tCons (tC .non) tNil)))) := by
  refine ⟨L, hb, fun f' c' A outer s H E hr => ?_⟩
  exact pe_call (X := lamCx X A outer s H E scope f' c') GL (hr.mono hk) gl gm kp bL .nil (passes_call (takes_of rfl rfl rfl rfl) fun _ _ _ _ h => h) (pa_cons (pe_var n1 w1 d1 c1) (pa_cons (pe_var n2 w2 d2 c2) (pa_cons pe_non pa_nil))) d0
end
/-- a lambda of the law that is kept in the list at l, and what its call raises, as data -/
def LamIt (X : Cx) (CR CT CG CM CN l : Addr) (σ : L2.St) (ds : List PyData) (H : Hp) (v : V) : Prop := ∃ (f c' : Addr) (HD : Hp) (params : Arguments) (body : Expr) (scope : Scope) (tb : XK → TE),
  v = .ref f ∧ HD l = none ∧ Lean1 HD H ∧ LiveLam X params body scope tb ∧ H f = some (LamO f (X.env.qual ++ "<lambda>") params body scope (cloFrom X.env.cells scope.names []) c') ∧ H c' = some (CodeO c' (X.env.qual ++ "<lambda>")) ∧
  ∀ σl, Agree σ σl → ∀ (H1 : Hp) (E : XK) (R : VK), Lean1 HD H1 → ErrGo X.K CR CT CG CM CN ds H1 E → tb E σl H1 R
section
variable {X : Cx} {CR CT CG CM CN fWhy l : Addr} {σ σ0 : L2.St} {H H' : Hp} {v : V} {ds : List PyData}
theorem LamIt.same (h : LamIt X CR CT CG CM CN l σ ds H v) (s : Same H H') : LamIt X CR CT CG CM CN l σ ds H' v := by
  obtain ⟨f, c', HD, params, body, scope, tb, rfl, h0, h1, h2, h3, h4, h5⟩ := h
  exact ⟨f, c', HD, params, body, scope, tb, rfl, h0, h1.trans (.of_same s), h2, s _ _ h3, s _ _ h4, h5⟩
theorem LamIt.mk {q : Str} {f c' : Addr} {HD : Hp} {params : Arguments} {body : Expr} {scope : Scope} {tb : XK → TE} (hq : X.env.qual ++ "<lambda>" = q) (n : HD l = none) (s : Lean1 HD H) (ll : LiveLam X params body scope tb)
    (ef : H f = some (LamO f q params body scope (cloFrom X.env.cells scope.names []) c')) (ec : H c' = some (CodeO c' q)) (go : ∀ σl, Agree σ σl → ∀ (H1 : Hp) (E : XK) (R : VK), Lean1 HD H1 → ErrGo X.K CR CT CG CM CN ds H1 E → tb E σl H1 R) :
    LamIt X CR CT CG CM CN l σ ds H (.ref f) := by
  subst hq
  exact ⟨f, c', HD, params, body, scope, tb, rfl, n, s, ll, ef, ec, go⟩
theorem LamIt.stay (h : LamIt X CR CT CG CM CN l σ ds H v) (s : Stay l H H') (hl : ∃ xs, H l = some (.lst xs)) : LamIt X CR CT CG CM CN l σ ds H' v := by
  obtain ⟨f, c', HD, params, body, scope, tb, rfl, h0, h1, h2, h3, h4, h5⟩ := h
  obtain ⟨xs, el⟩ := hl
  exact ⟨f, c', HD, params, body, scope, tb, rfl, h0, h1.stay h0 s, h2, s _ _ (fun z => by rw [z, el] at h3; unfold LamO at h3; cases h3) h3 lamO_ne, s _ _ (fun z => by rw [z, el] at h4; unfold CodeO at h4; cases h4) h4 codeO_ne, h5⟩
theorem why_it {i : Nat} {Q : VK} (h : LamIt X CR CT CG CM CN l σ0 ds H v) (hi : σ[i]? = some (some v)) (ag : Agree σ0 σ)
    (k : ∀ (z : Addr) (H' : Hp), Same H H' → Dq X.K H' (.tuple ds) (.ref z) → Q (.ref z) H') : tWhyS X CR CT CG CM CN fWhy i σ H Q := by
  obtain ⟨f, c', HD, params, body, scope, tb, rfl, h0, h1, h2, h3, h4, h5⟩ := h
  exact why_live hi h2.L h2.bind (fun A outer s H E hr => h2.body f c' A outer s H E hr) h3 h4 (fun H1 E R s go => h5 σ ag H1 E R (h1.trans (.of_same s)) go) k
/-- x.append(lambda: ..) -/
theorem app_lam {T : List (Addr × Str)} {q : Str} {i : Nat} {params : Arguments} {body : Expr} {scope : Scope} {cl : List (Str × Addr)} {xs : List V} {u : TS} {D : Ends} (h7 : σ[i]? = some (some (.ref l))) (el : H l = some (.lst xs)) (hx : xs.length ≤ 100) (hT : Tabs T H)
    (k : ∀ (f c' : Addr) (H1 : Hp), Stay l H H1 → Tabs T H1 → H1 l = some (.lst (xs ++ [.ref f])) → H1 f = some (LamO f q params body scope cl c') → H1 c' = some (CodeO c' q) → u D σ H1) :
    tSeq (tDrop (tBM X.K "list" rAppend (tVar i) (tCons (tLamV T q params body scope cl) tNil))) u D σ H := by
  refine ⟨_, h7, .inl ⟨rfl, _, SqL.of el⟩, ?_⟩
  refine ⟨hT, fun f c' H1 eN T1 nf ef ec => ?_⟩
  have el1 := eN _ _ el (fun _ z => by cases z)
  have ne : ∀ {b : Addr} {o : HO}, H1 b = some o → (∀ ys, o ≠ .lst ys) → b ≠ l := fun e n z => by
    rw [z, el1] at e
    exact n _ (Option.some.inj e).symm
  have at_ : ∀ {b : Addr} {o o' : HO}, H1 b = some o → (∀ ys, o ≠ .lst ys) → upd H1 l o' b = some o := fun e n => by rw [upd_ne (ne e n)]; exact e
  refine ⟨l, xs, _, rfl, rfl, el1, Nat.lt_of_le_of_lt hx (by decide), ?_⟩
  exact k f c' _ ((Stay.of_ext eN).trans .upd) (tabs_stay T1 el1) upd_same (at_ ef (fun _ z => by unfold LamO at z; cases z)) (at_ ec (fun _ z => by unfold CodeO at z; cases z))
end
end Y
set_option Elab.async false
set_option linter.all false
set_option maxRecDepth 100000
set_option maxHeartbeats 8000000
namespace Y
open PySem PySem.Spec PyProof.Rows L2 LamX
abbrev sLaw : Stmt := top 59
abbrev NLaw : List Str := ["_law_script", "_law_pen_here", "_law_lap", "_law_yard", "_law_calls", "_law_call", "_law_row", "_law_value", "_law_bad", "_law_made"]
def qLaw : Str := (envOfC "law" (defScope sLaw) 0 0 (.none : Value)).qual ++ "<lambda>"
def spLaw (K : PySem.W.Frag) (PtL : Addr) : Sp := fun vs H Q _ => ∃ (a : Addr) (ns : List Int), vs = [.ref a] ∧ SqL K H a (ns.map V.int) ∧ ns.length ≤ 63 ∧ H PtL = some (.tbl #[]) ∧ ∀ H', Q (.bl true) H'
/-! ### told values of any kind -/
structure KOut (K : PySem.W.Frag) (C CO : Addr) : Prop where
  oc : OCls K CO
  ok : OwnK K CO
  own : PySem.W.kitOne K (.ref CO) (.ref CO) = some true
  okY : OwnK K C
  n1 : PySem.W.kitOne K (.ref CO) (.type "tuple") = some false
  n2 : PySem.W.kitOne K (.ref C) (.type "tuple") = some false
  n3 : PySem.W.kitOne K (.ref C) (.ref CO) = some false
  t1 : PySem.W.kitOne K (.type "NoneType") (.ref CO) = some false
  t2 : PySem.W.kitOne K (.type "int") (.ref CO) = some false
  t3 : PySem.W.kitOne K (.type "str") (.ref CO) = some false
  t4 : PySem.W.kitOne K (.type "dict") (.ref CO) = some false
  t5 : PySem.W.kitOne K (.type "tuple") (.ref CO) = some false
def ValOk (K : PySem.W.Frag) (CO : Addr) (n : Nat) (H : Hp) (v : V) : Prop := (NoTup K H v ∨ ∃ a e, v = .ref a ∧ SqT K H a [e] ∧ FT1 K H n e false) ∧ ToldV K CO H v
section
variable {K : PySem.W.Frag} {C CO : Addr} {n : Nat} {H : Hp}
theorem val_one (k : KOut K C CO) {a : Addr} {e : V} (h : SqT K H a [e]) (f : FT1 K H n e false) : ValOk K CO n H (.ref a) := ⟨.inr ⟨a, e, rfl, h, f⟩, .inl ⟨_, ty_tup h, k.t5⟩⟩
theorem val_vals (n60 : n ≤ 60) (k : KOut K C CO) {d7 t5 t6 u6 t7 x o : Addr} {dx : Addr} {fs : List (Str × V)} {ts : List (Int × Int)} {rs : List (List Int)} (h4 : H d7 = some (.dK [])) (h5 : H t5 = some (.tup [.non])) (h6 : H t6 = some (.tup [.ref u6])) (g6 : H u6 = some (.tup [.int (n : Int)])) (h7 : H t7 = some (.tup [.str "0"]))
    (ho : H o = some (.ins CO dx fs)) (hl : fs.lookup ("home" : Str) = some .non) (hy : YObjC K H C x n ts rs) : ∀ v ∈ [V.non, .int 5, .str "rows", .ref d7, .ref t5, .ref t6, .ref t7, .ref o, .ref x], ValOk K CO n H v := by
  intro v hv
  simp only [List.mem_cons, List.not_mem_nil, or_false] at hv
  rcases hv with rfl | rfl | rfl | rfl | rfl | rfl | rfl | rfl | rfl
  · exact ⟨.inl (no_tup .non rfl), .inl ⟨_, dq_ty (K := K) .non, k.t1⟩⟩
  · exact ⟨.inl (no_tup (.int _) rfl), .inl ⟨_, dq_ty (K := K) (.int _), k.t2⟩⟩
  · exact ⟨.inl (no_tup (.str _) rfl), .inl ⟨_, dq_ty (K := K) (.str _), k.t3⟩⟩
  · exact ⟨.inl (no_tup (.dct h4) rfl), .inl ⟨_, dq_ty (K := K) (.dct h4), k.t4⟩⟩
  · exact val_one k (SqT.of h5) (.inl ⟨.none, .non, rfl, rfl⟩)
  · refine val_one k (SqT.of h6) (.inr ⟨[.int (n : Int)], .tup (SqT.of g6) (.cons (.int _) .nil), (by show 1 < 64; decide), ?_⟩)
    exact (odd_all (n := n) n60 (.tuple [.int (n : Int)]) (by unfold oddRows oddA; simp)).fil
  · exact val_one k (SqT.of h7) (.inl ⟨.str "0", .str _, rfl, rfl⟩)
  · exact ⟨.inl ⟨_, .base (TyOf.ins ho k.oc.c k.ok.ha k.ok.hn k.ok.htk k.ok.hm), k.n1⟩, .inr ⟨o, dx, fs, rfl, ho, hl⟩⟩
  · obtain ⟨dx', a, e, fs', ys, zs, hx, yc, _⟩ := hy
    exact ⟨.inl ⟨_, .base (TyOf.ins hx yc.c k.okY.ha k.okY.hn k.okY.htk k.okY.hm), k.n2⟩, .inl ⟨_, .base (TyOf.ins hx yc.c k.okY.ha k.okY.hn k.okY.htk k.okY.hm), k.n3⟩⟩
end
theorem YObjC.lean {K : PySem.W.Frag} {C x : Addr} {n : Nat} {H H' : Hp} {ts : List (Int × Int)} {rs : List (List Int)} (h : YObjC K H C x n ts rs) (s : Lean1 H H') : YObjC K H' C x n ts rs := by
  obtain ⟨dx, a, e, fs, ys, zs, hx, yc, lp, lt, lr, ha, pa, he, pe⟩ := h
  exact ⟨dx, a, e, fs, ys, zs, s _ _ hx (fun _ z => by cases z) (fun _ z => by cases z) (fun _ z => by cases z), yc, lp, lt, lr, s.seqT ha, s.ties pa, s.seqT he, s.rings pe⟩
/-! ### what the law's lambdas read -/
structure LawCtx (K : PySem.W.Frag) (HD : Hp) (x : Addr) (vB : V) (n : Nat) (ts : List (Int × Int)) (rs : List (List Int)) (dB : PyData) : Prop where
  yo : YObj K HD x n ts rs
  hB : Dq K HD dB vB
  oB : OddR n dB
def sL (x : Addr) (vB : V) : L2.St := [none, none, none, none, none, none, none, none, some vB, some (.ref x)]
theorem agree_sL {x : Addr} {vB : V} {v0 v1 v2 v3 v4 v5 v6 v7 : Option V} : Agree (sL x vB) [v0, v1, v2, v3, v4, v5, v6, v7, some vB, some (.ref x)] := fun i v e =>
  match i, e with
  | 0, e => by cases e
  | 1, e => by cases e
  | 2, e => by cases e
  | 3, e => by cases e
  | 4, e => by cases e
  | 5, e => by cases e
  | 6, e => by cases e
  | 7, e => by cases e
  | 8, e => e
  | 9, e => e
  | n + 10, e => by cases e
section
variable {K : PySem.W.Frag} {HD H1 : Hp} {x : Addr} {vB : V} {n : Nat} {ts : List (Int × Int)} {rs : List (List Int)} {dB : PyData} {CR CT CG CM CN : Addr} {σl : L2.St} {E : XK} {R : VK}
theorem go2 (c : LawCtx K HD x vB n ts rs dB) (a : Agree (sL x vB) σl) (s : Lean1 HD H1) (go : ErrGo K CR CT CG CM CN [.str "row", dB] H1 E) : tCall (spMAX K CR) [] E (tCons (tVar 9) (tCons (tVar 8) tNil)) σl H1 R :=
  ⟨_, a 9 _ rfl, _, a 8 _ rfl, x, vB, n, ts, rs, dB, rfl, c.yo.lean s, s.dq c.hB, c.oB.sh, c.oB.fil, fun d H' s' e => go _ _ _ _ H' s' e (.row _ rfl) (.cons (.str _) (.cons (Dq.kp s' (s.dq c.hB)) .nil))⟩
theorem go3 (c : LawCtx K HD x vB n ts rs dB) (a : Agree (sL x vB) σl) (s : Lean1 HD H1) (go : ErrGo K CR CT CG CM CN [.str "row", dB] H1 E) : tCall (spAreX K CR) [] E (tCons (tVar 9) (tCons (tVar 8) (tCons (tC .non) tNil))) σl H1 R :=
  ⟨_, a 9 _ rfl, _, a 8 _ rfl, x, vB, .non, n, ts, rs, dB, rfl, c.yo.lean s, s.dq c.hB, c.oB.sh, c.oB.fil, fun d H' s' e => go _ _ _ _ H' s' e (.row _ rfl) (.cons (.str _) (.cons (Dq.kp s' (s.dq c.hB)) .nil))⟩
end
structure TLw (mg : Str → Option Value) (fDraw fPen fSome fMade fOddR fWhy fSame fSRow fLot fLost fOutsOf fAre fHome fClo CO : Addr) : Prop where
  gPen : mg "_law_pen" = some (.ref fPen)
  gSome : mg "_law_some_yard" = some (.ref fSome)
  gMade : mg "_law_made_yard" = some (.ref fMade)
  gOddR : mg "_law_odd_row" = some (.ref fOddR)
  gWhy : mg "_law_why" = some (.ref fWhy)
  gSame : mg "_law_same" = some (.ref fSame)
  gSRow : mg "_law_some_row" = some (.ref fSRow)
  gLot : mg "lot_of" = some (.ref fLot)
  gLost : mg "lost_tie" = some (.ref fLost)
  gOutsOf : mg "outs_of" = some (.ref fOutsOf)
  gAre : mg "are_outs" = some (.ref fAre)
  gHome : mg "way_home" = some (.ref fHome)
  gClo : mg "is_closed" = some (.ref fClo)
  gOuts : mg "Outs" = some (.ref CO)
section
variable {P : Program} {w : World} {K : PySem.W.Frag} {mg : Str → Option Value} {base : Heap} {C CO fOI fDraw fPen fSome fMade fOddR fWhy fSame fSRow fLot fLost fOutsOf fAre fHome fClo CR CT CG CM CN : Addr}
theorem q_law {f c : Addr} {A : Around} {outer : List Env} {s : Shared} {H : Hp} {E : XK} : (cxOf CX0 P w K mg base NLaw "law" (defScope sLaw) f (.ref c) A outer s H E).nox.env.qual ++ "<lambda>" = qLaw := by
  show (PyProof.Rows.envOfC "law" (defScope sLaw) s.heap.objs.size f (.ref c)).qual ++ "<lambda>" = qLaw
  rfl
theorem scLaw : FnScope NLaw ["_law_script"] (defScope sLaw) := ⟨rfl, rfl, rfl, by decide +kernel, rfl, by decide +kernel, by decide +kernel⟩
theorem ok_law {f c PtL : Addr} {fd fdPen fdS fdM fdO fdW fdSa fdSR fdLo fdLt fdOo fdAr fdHo fdCl fdOI : FuncData} (F : Fun K "law" "law" sLaw f fd) (hc : fd.code = .ref c) (TB : TabB base mg c PtL) (gR : mg "range" = none)
    (T : TLw mg fDraw fPen fSome fMade fOddR fWhy fSame fSRow fLot fLost fOutsOf fAre fHome fClo CO) (TW : TWy K mg CR CT CG CM CN) (KO : KOut K C CO) (M : Mk K CO fOI)
    (GPen : FnOk P w K mg base CX0 1 fPen fdPen ["_law_script"] (spPen K)) (FPen : Fun K "_law_pen" "_law_pen" sPen fPen fdPen) (bPen : Binds K fdPen ["_law_script"] [])
    (GS : FnOk P w K mg base CX0 4 fSome fdS ["_law_pen_here", "_law_most"] (spSYard K)) (FS : Fun K "_law_some_yard" "_law_some_yard" sSYard fSome fdS) (bS : Binds K fdS ["_law_pen_here", "_law_most"] [])
    (GM : FnOk P w K mg base CX0 7 fMade fdM ["_law_pen_here", "_law_yard"] (spMade K C)) (FM : Fun K "_law_made_yard" "_law_made_yard" sMade fMade fdM) (bM : Binds K fdM ["_law_pen_here", "_law_yard"] [])
    (GO : FnOk P w K mg base CX0 3 fOddR fdO ["_law_pen_here", "_law_places"] (spOddR K)) (FO : Fun K "_law_odd_row" "_law_odd_row" sOddR fOddR fdO) (bO : Binds K fdO ["_law_pen_here", "_law_places"] [])
    (FW : Fun K "_law_why" "_law_why" sWhy fWhy fdW) (bW : Binds K fdW ["_law_call"] [])
    (GSa : FnG P w K mg base CX0 1 fSame fdSa ["_law_one", "_law_other"] (spSame K)) (FSa : Fun K "_law_same" "_law_same" sSame fSame fdSa) (bSa : Binds K fdSa ["_law_one", "_law_other"] [])
    (GSR : FnOk P w K mg base CX0 3 fSRow fdSR ["_law_pen_here", "_law_places"] (spSRow K)) (FSR : Fun K "_law_some_row" "_law_some_row" sSRow fSRow fdSR) (bSR : Binds K fdSR ["_law_pen_here", "_law_places"] [])
    (GLo : FnOk P w K mg base (L2.CX P w) 8 fLot fdLo ["yard", "row"] (spMAX K CR)) (FLo : Fun K "lot_of" "lot_of" sLot fLot fdLo) (bLo : Binds K fdLo ["yard", "row"] [])
    (GLt : FnOk P w K mg base (L2.CX P w) 9 fLost fdLt ["yard", "row"] (spMAX K CR)) (FLt : Fun K "lost_tie" "lost_tie" sLost fLost fdLt) (bLt : Binds K fdLt ["yard", "row"] [])
    (GOo : FnOk P w K mg base (L2.CX P w) 11 fOutsOf fdOo ["yard", "row"] (spMAX K CR)) (FOo : Fun K "outs_of" "outs_of" sOutsOf fOutsOf fdOo) (bOo : Binds K fdOo ["yard", "row"] [])
    (GArX : FnOk P w K mg base (L2.CX P w) 10 fAre fdAr ["yard", "row", "told"] (spAreX K CR)) (GAr : FnOk P w K mg base CX0 10 fAre fdAr ["yard", "row", "told"] (spAre K CO)) (FAr : Fun K "are_outs" "are_outs" sAre fAre fdAr) (bAr : Binds K fdAr ["yard", "row", "told"] [])
    (GHo : FnOk P w K mg base (L2.CX P w) 11 fHome fdHo ["yard", "row"] (spMAX K CR)) (FHo : Fun K "way_home" "way_home" sHome fHome fdHo) (bHo : Binds K fdHo ["yard", "row"] [])
    (GCl : FnOk P w K mg base CX0 7 fClo fdCl ["yard", "rows"] (spClo K)) (FCl : Fun K "is_closed" "is_closed" sClo fClo fdCl) (bCl : Binds K fdCl ["yard", "rows"] [])
    (GOI : FnOk P w K mg base CX0 2 fOI fdOI ["self", "home", "rows", "ways"] (spOInit K)) (bOI : Binds K fdOI ["self", "home", "rows", "ways"] []) :
    FnG P w K mg base CX0 14 f fd ["_law_script"] (spLaw K PtL) := by
  have hm : (PtL, qLaw) ∈ [(PtL, qLaw)] := by simp
  have hun : ∀ z ∈ [(PtL, qLaw)], z.1 = PtL → z.2 = qLaw := fun z hz e => by rw [List.mem_singleton.mp hz]
  refine okGc F hc scLaw (fun vs H Q E h => ?_) (fun A outer s H vs Q E hg hr h => ?_)
  · obtain ⟨a, ns, rfl, _⟩ := h
    rfl
  · obtain ⟨a, ns, rfl, hS, hlen, hPL, k⟩ := h
    have hr1 : Room 1 _ := hr.mono (by decide)
    have hr2 : Room 2 _ := hr.mono (by decide)
    have hr3 : Room 3 _ := hr.mono (by decide)
    have hr4 : Room 4 _ := hr.mono (by decide)
    have hr7 : Room 7 _ := hr.mono (by decide)
    have hr10 : Room 10 _ := hr.mono (by decide)
    refine ⟨_, pss_cons (ps_set (i := 1) scLaw.nd rfl (Or.inl rfl) (pe_call GPen hr1 (by rfl) T.gPen FPen.kp bPen .nil pass0 (pa_cons (pv 0) pa_nil)))
      (pss_cons (ps_for PassesOwn.never rfl (pi_range1 (by rfl) gR (pa_cons pe_int pa_nil)) (pg_name (i := 2) scLaw.nd rfl (Or.inl rfl))
        (pss_cons (ps_set (i := 3) scLaw.nd rfl (Or.inl rfl) (pe_call GS hr4 (by rfl) T.gSome FS.kp bS .nil pass0 (pa_cons (pv 1) (pa_cons pe_int pa_nil))))
        (pss_cons (ps_asg (pe_tup (pa_cons (pe_call GM hr7 (by rfl) T.gMade FM.kp bM .nil pass0 (pa_cons (pv 1) (pa_cons (pv 3) pa_nil))) (pa_cons (pe_call GO hr3 (by rfl) T.gOddR FO.kp bO .nil pass0 (pa_cons (pv 1) (pa_cons (pe_ix ix_tup (pv 3) pe_int (fun _ _ => rfl)) pa_nil))) pa_nil))) (pg_tup rfl (pgs_cons (pg_name (i := 9) scLaw.nd rfl (Or.inr rfl)) (pgs_cons (pg_name (i := 8) scLaw.nd rfl (Or.inr rfl)) pgs_nil))))
        (pss_cons (ps_set (i := 4) scLaw.nd rfl (Or.inl rfl) (pe_lst (pa_cons (pe_lamV q_law TB rfl hm hun (lamS_by (sc := defScope sLaw) (by decide +kernel)) rfl) pa_nil)))
        (pss_cons (ps_expr (pe_bm PySem.F.plainAttrs_list PySem.F.slot_list_append PySem.F.type_list_append mt_append (pv 4) (pa_cons (pe_lamV q_law TB rfl hm hun (lamS_by (sc := defScope sLaw) (by decide +kernel)) rfl) pa_nil)))
        (pss_cons (ps_expr (pe_bm PySem.F.plainAttrs_list PySem.F.slot_list_append PySem.F.type_list_append mt_append (pv 4) (pa_cons (pe_lamV q_law TB rfl hm hun (lamS_by (sc := defScope sLaw) (by decide +kernel)) rfl) pa_nil)))
        (pss_cons (ps_expr (pe_bm PySem.F.plainAttrs_list PySem.F.slot_list_append PySem.F.type_list_append mt_append (pv 4) (pa_cons (pe_lamV q_law TB rfl hm hun (lamS_by (sc := defScope sLaw) (by decide +kernel)) rfl) pa_nil)))
        (pss_cons (ps_expr (pe_bm PySem.F.plainAttrs_list PySem.F.slot_list_append PySem.F.type_list_append mt_append (pv 4) (pa_cons (pe_lamV q_law TB rfl hm hun (lamS_by (sc := defScope sLaw) (by decide +kernel)) rfl) pa_nil)))
        (pss_cons (ps_for PassesOwn.never rfl (pi_list (pv 4)) (pg_name (i := 5) scLaw.nd rfl (Or.inl rfl))
          (pss_one (ps_if (pt_not (pt_val (pe_callG hg GSa hr1 (by rfl) T.gSame FSa.kp bSa pass0 (pa_cons (pe_whyS (by rfl) T.gWhy FW bW TW hr (i := 5) rfl (.inl rfl)) (pa_cons (pe_tup (pa_cons pe_str (pa_cons (pv 8) pa_nil))) pa_nil))))) (pss_one (ps_ret pe_bl)) pss_nil)))
        (pss_cons (ps_set (i := 6) scLaw.nd rfl (Or.inl rfl) (pe_call GSR hr3 (by rfl) T.gSRow FSR.kp bSR .nil pass0 (pa_cons (pv 1) (pa_cons (pe_ix ix_tup (pv 3) pe_int (fun _ _ => rfl)) pa_nil))))
        (pss_cons (ps_for PassesOwn.never rfl (pi_list (pe_lst (pa_cons pe_non (pa_cons pe_int (pa_cons pe_str (pa_cons pe_dnewK (pa_cons (pe_tup (pa_cons pe_non pa_nil)) (pa_cons (pe_tup (pa_cons (pe_tup (pa_cons (pe_ix ix_tup (pv 3) pe_int (fun _ _ => rfl)) pa_nil)) pa_nil)) (pa_cons (pe_tup (pa_cons pe_str pa_nil))
            (pa_cons (pe_make M GOI hr3 (by rfl) T.gOuts bOI .nil pass0 (pa_cons pe_non (pa_cons pe_non (pa_cons pe_non pa_nil)))) (pa_cons (pv 9) pa_nil))))))))))) (pg_name (i := 7) scLaw.nd rfl (Or.inl rfl))
          (pss_one (ps_if (PW.pt (pw_or (pt_cmpR op_isnot_bl (pe_call GCl hr7 (by rfl) T.gClo FCl.kp bCl .nil pass0 (pa_cons (pv 9) (pa_cons (pv 7) pa_nil))) pe_bl (by rfl)) (pw_or1 (pt_cmpR op_isnot_bl (pe_call GAr hr10 (by rfl) T.gAre FAr.kp bAr .nil pass0 (pa_cons (pv 9) (pa_cons (pv 6) (pa_cons (pv 7) pa_nil)))) pe_bl (by rfl))))) (pss_one (ps_ret pe_bl)) pss_nil)))
        (pss_one (ps_if (PW.pt (pw_or (pt_cmpR op_isnot_bl (pe_call GCl hr7 (by rfl) T.gClo FCl.kp bCl .nil pass0 (pa_cons (pv 9) (pa_cons (pe_tup pa_nil) pa_nil))) pe_bl (by rfl)) (pw_or1 (pt_cmpR op_isnot_bl (pe_call GCl hr7 (by rfl) T.gClo FCl.kp bCl .nil pass0 (pa_cons (pv 9) (pa_cons (pe_lst pa_nil) pa_nil))) pe_bl (by rfl))))) (pss_one (ps_ret pe_bl)) pss_nil)))))))))))))
      (pss_one (ps_ret pe_bl))), ?_⟩
    refine ⟨_, rfl, a, ns, rfl, hS, hlen, fun p c0 H1 P1 s1 np => ?_⟩
    have hT1 : Tabs [(PtL, qLaw)] H1 := fun z hz => by rw [List.mem_singleton.mp hz]; exact TabS.nil (s1 _ _ hPL)
    refine ⟨3, rfl, by decide, by decide, ?_⟩
    refine for_range (lo := 0) (n := 3) (fun i σ H' => ∃ (v2 v3 v4 v5 v6 v7 v8 v9 : Option V), σ = [some (.ref a), some (.ref p), v2, v3, v4, v5, v6, v7, v8, v9] ∧ Pen H' p c0 (1000 * (3 - i)) ∧ Tabs [(PtL, qLaw)] H')
      ⟨none, none, none, none, none, none, none, none, rfl, P1.less (by decide), hT1⟩ ?_ ?_
    · rintro i σ H2 hi ⟨v2, v3, v4, v5, v6, v7, v8, v9, rfl, P2, T2⟩
      obtain ⟨b, hb⟩ : ∃ b, b = 1000 * (3 - (i + 1)) := ⟨_, rfl⟩
      have P2' : Pen H2 p c0 (b + 1000) := P2.less (by omega)
      refine ⟨_, rfl, p, c0, 5, b + 800, rfl, P2'.less (by omega), by decide, by decide, fun q n ts rs H3 y3 ok nm kp3 P3 => ?_⟩
      have nm : n ≤ 5 := nm
      have yp := ok.yp
      refine ⟨_, rfl, _, rfl, p, c0, q, n, b + 600, ts, rs, rfl, P3.less (by omega), y3, ok, fun x H4 yo4 kp4 P4 => ?_⟩
      have y4 := y3.kp kp4
      obtain ⟨ya, ye, yys, yzs, hq4, _⟩ := id y4
      have P4' : Pen H4 p c0 (b + 500 + 1) := P4.less (by omega)
      refine ⟨_, rfl, _, rfl, q, _, 0, _, rfl, rfl, hq4, atI_nat (j := 0) rfl, p, c0, n, b + 500, rfl, P4', by omega, fun vB dB H5 hB5 oB B5 P5 => ⟨(by show 2 ≤ sizeLine; decide), fun t5 nt5 => ?_⟩⟩
      refine ⟨t5, _, rfl, SqT.of upd_same, rfl, _, _, rfl, ?_⟩
      refine ⟨_, _, rfl, rfl, ?_⟩
      have s56 := Same.new (o := .tup [.ref x, vB]) nt5
      have L46 := (Lean1.of_pen B5 P4').trans (.of_same s56)
      have T6 := (tabs_but (tabs_kp T2 (kp3.trans kp4)) B5 P4').ext s56
      have P6 := P5.same s56
      have y6 := y4.lean L46
      have yo6 := yo4.lean L46
      have hB6 := Dq.kp s56 hB5
      generalize upd H5 t5 (.tup [.ref x, vB]) = H6 at s56 T6 P6 y6 yo6 hB6 ⊢
      refine sq_st (σ' := [some (.ref a), some (.ref p), some (.int (0 + (i : Int))), some (.ref q), v4, v5, v6, v7, some vB, some (.ref x)]) rfl ?_
      have Ctx : LawCtx K (leanOf H6) x vB n ts rs dB := ⟨yo6.y.lean (lean_leanOf H6), (lean_leanOf H6).dq hB6, oB⟩
      -- the calls
      refine ⟨T6, fun f1 c1_ H7 eN T7 nf1 ef ec => ⟨(by show 1 ≤ sizeLine; decide), fun l nl => ?_⟩⟩
      refine gset_go (σ' := [some (.ref a), some (.ref p), some (.int (0 + (i : Int))), some (.ref q), some (.ref l), v5, v6, v7, some vB, some (.ref x)]) rfl ?_
      dsimp only
      have s78 := Same.new (o := .lst [V.ref f1]) nl
      have L68 := (Lean1.of_ext eN).trans (.of_same s78)
      have hl : leanOf H6 l = none := leanOf_none (Lean1.of_ext eN) nl
      have sD1 : Lean1 (leanOf H6) (upd H7 l (.lst [V.ref f1])) := leanOf_lean L68
      have el1 : (upd H7 l (.lst [V.ref f1])) l = some (.lst [V.ref f1]) := upd_same
      have TA1 := T7.ext s78
      have PA1 : Pen (upd H7 l (.lst [V.ref f1])) p c0 (b + 500) := by
        obtain ⟨ms, a1, a2, a3, a4, h1, h2, r⟩ := P6.ex
        exact ⟨⟨ms, a1, a2, a3, a4, s78 _ _ (eN _ _ h1 (fun _ z => by cases z)), s78 _ _ (eN _ _ h2 (fun _ z => by cases z)), r⟩⟩
      have clc : c0 ≠ l := fun z => by
        obtain ⟨ms, a1, a2, a3, a4, h1, h2, _⟩ := P6.ex
        have := eN _ _ h2 (fun _ z => by cases z)
        rw [z, nl] at this
        cases this
      have ef' := s78 _ _ ef
      have ec' := s78 _ _ ec
      generalize upd H7 l (.lst [V.ref f1]) = H8 at s78 L68 sD1 el1 TA1 PA1 ef' ec' ⊢
      have i1 : LamIt (cxOf CX0 P w K mg base NLaw "law" (defScope sLaw) f (.ref c) A outer s H E).nox CR CT CG CM CN l (sL x vB) [.str "row", dB] H8 (.ref f1) := LamIt.mk q_law hl sD1 (ll_2 GLo (by decide) T.gLot FLo.kp bLo (lamS_by (sc := defScope sLaw) (by decide +kernel)) rfl (fun _ _ _ => rfl) (i1 := 9) (i2 := 8) rfl (.inr (.inr rfl)) rfl (.inr (.inr rfl))) ef' ec' (fun σl ag H1 E R s go => go2 Ctx ag s go)
      clear ef ec ef' ec'
      refine app_lam (X := (cxOf CX0 P w K mg base NLaw "law" (defScope sLaw) f (.ref c) A outer s H E).nox) rfl el1 (by simp only [List.length_append, List.length_singleton]; omega) TA1 fun f2 c2_ H9 S2 TA2 el2 ef ec => ?_
      have sD2 := sD1.stay hl S2
      have PA2 := pen_stay PA1 clc el1 S2
      replace i1 := i1.stay S2 ⟨_, el1⟩
      have i2 : LamIt (cxOf CX0 P w K mg base NLaw "law" (defScope sLaw) f (.ref c) A outer s H E).nox CR CT CG CM CN l (sL x vB) [.str "row", dB] H9 (.ref f2) := LamIt.mk q_law hl sD2 (ll_2 GLt (by decide) T.gLost FLt.kp bLt (lamS_by (sc := defScope sLaw) (by decide +kernel)) rfl (fun _ _ _ => rfl) (i1 := 9) (i2 := 8) rfl (.inr (.inr rfl)) rfl (.inr (.inr rfl))) ef ec (fun σl ag H1 E R s go => go2 Ctx ag s go)
      clear ef ec
      refine app_lam (X := (cxOf CX0 P w K mg base NLaw "law" (defScope sLaw) f (.ref c) A outer s H E).nox) rfl el2 (by simp only [List.length_append, List.length_singleton]; omega) TA2 fun f3 c3_ H10 S3 TA3 el3 ef ec => ?_
      have sD3 := sD2.stay hl S3
      have PA3 := pen_stay PA2 clc el2 S3
      replace i1 := i1.stay S3 ⟨_, el2⟩
      replace i2 := i2.stay S3 ⟨_, el2⟩
      have i3 : LamIt (cxOf CX0 P w K mg base NLaw "law" (defScope sLaw) f (.ref c) A outer s H E).nox CR CT CG CM CN l (sL x vB) [.str "row", dB] H10 (.ref f3) := LamIt.mk q_law hl sD3 (ll_2 GOo (by decide) T.gOutsOf FOo.kp bOo (lamS_by (sc := defScope sLaw) (by decide +kernel)) rfl (fun _ _ _ => rfl) (i1 := 9) (i2 := 8) rfl (.inr (.inr rfl)) rfl (.inr (.inr rfl))) ef ec (fun σl ag H1 E R s go => go2 Ctx ag s go)
      clear ef ec
      refine app_lam (X := (cxOf CX0 P w K mg base NLaw "law" (defScope sLaw) f (.ref c) A outer s H E).nox) rfl el3 (by simp only [List.length_append, List.length_singleton]; omega) TA3 fun f4 c4_ H11 S4 TA4 el4 ef ec => ?_
      have sD4 := sD3.stay hl S4
      have PA4 := pen_stay PA3 clc el3 S4
      replace i1 := i1.stay S4 ⟨_, el3⟩
      replace i2 := i2.stay S4 ⟨_, el3⟩
      replace i3 := i3.stay S4 ⟨_, el3⟩
      have i4 : LamIt (cxOf CX0 P w K mg base NLaw "law" (defScope sLaw) f (.ref c) A outer s H E).nox CR CT CG CM CN l (sL x vB) [.str "row", dB] H11 (.ref f4) := LamIt.mk q_law hl sD4 (ll_2n GArX (by decide) T.gAre FAr.kp bAr (lamS_by (sc := defScope sLaw) (by decide +kernel)) rfl (fun _ _ _ => rfl) (i1 := 9) (i2 := 8) rfl (.inr (.inr rfl)) rfl (.inr (.inr rfl))) ef ec (fun σl ag H1 E R s go => go3 Ctx ag s go)
      clear ef ec
      refine app_lam (X := (cxOf CX0 P w K mg base NLaw "law" (defScope sLaw) f (.ref c) A outer s H E).nox) rfl el4 (by simp only [List.length_append, List.length_singleton]; omega) TA4 fun f5 c5_ H12 S5 TA5 el5 ef ec => ?_
      have sD5 := sD4.stay hl S5
      have PA5 := pen_stay PA4 clc el4 S5
      replace i1 := i1.stay S5 ⟨_, el4⟩
      replace i2 := i2.stay S5 ⟨_, el4⟩
      replace i3 := i3.stay S5 ⟨_, el4⟩
      replace i4 := i4.stay S5 ⟨_, el4⟩
      have i5 : LamIt (cxOf CX0 P w K mg base NLaw "law" (defScope sLaw) f (.ref c) A outer s H E).nox CR CT CG CM CN l (sL x vB) [.str "row", dB] H12 (.ref f5) := LamIt.mk q_law hl sD5 (ll_2 GHo (by decide) T.gHome FHo.kp bHo (lamS_by (sc := defScope sLaw) (by decide +kernel)) rfl (fun _ _ _ => rfl) (i1 := 9) (i2 := 8) rfl (.inr (.inr rfl)) rfl (.inr (.inr rfl))) ef ec (fun σl ag H1 E R s go => go2 Ctx ag s go)
      clear ef ec
      have hall : ∀ v ∈ [V.ref f1] ++ [.ref f2] ++ [.ref f3] ++ [.ref f4] ++ [.ref f5], LamIt (cxOf CX0 P w K mg base NLaw "law" (defScope sLaw) f (.ref c) A outer s H E).nox CR CT CG CM CN l (sL x vB) [.str "row", dB] H12 v := fun v hv => by
        simp only [List.mem_append, List.mem_singleton] at hv
        rcases hv with ((((rfl | rfl) | rfl) | rfl) | rfl)
        · exact i1
        · exact i2
        · exact i3
        · exact i4
        · exact i5
      generalize [V.ref f1] ++ [.ref f2] ++ [.ref f3] ++ [.ref f4] ++ [.ref f5] = L at el5 hall
      clear i1 i2 i3 i4 i5
      have tlB : Tl (.tuple [.str "row", dB]) := tl_pair (by decide +kernel) oB.sd
      have L612 : Lean1 H6 H12 := (lean_leanOf H6).trans sD5
      refine ⟨_, rfl, l, rfl, ⟨_, SqL.of el5⟩, for_list (K := K) (a := l) (xs := L) (fun j σ H' => ∃ (w5 : Option V), σ = [some (.ref a), some (.ref p), some (.int (0 + (i : Int))), some (.ref q), some (.ref l), w5, v6, v7, some vB, some (.ref x)] ∧ Same H12 H') ⟨v5, rfl, Same.refl' _⟩ (fun j σ H' _ ⟨_, _, s⟩ => SqL.of (s _ _ el5)) ?_ ?_⟩
      · rintro j y σ HH hj ⟨w5, rfl, s⟩
        refine why_it ((hall y (List.mem_of_getElem? hj)).same s) rfl agree_sL (fun z H' s2 hz => ?_)
        refine ⟨_, rfl, (by show 2 ≤ sizeLine; decide), fun u nu => ?_⟩
        have su := Same.new (o := .tup [.str "row", vB]) nu
        have sA := (s.trans s2).trans su
        refine ⟨.ref z, .ref u, .tuple [.str "row", dB], rfl, Dq.kp su hz, .tup (SqT.of upd_same) (.cons (.str _) (.cons (Dq.kp sA (sD5.dq Ctx.hB)) .nil)), tlB, _, rfl, iteF ?_⟩
        exact ⟨_, rfl, sA⟩
      · rintro σ HH ⟨w5, rfl, s12⟩
        have L6H := L612.trans (.of_same s12)
        have yH := y6.lean L6H
        have yoH := yo6.lean L6H
        have PH : Pen HH p c0 (b + 500) := PA5.same s12
        have TH := TA5.ext s12
        obtain ⟨ya', ye', yys', yzs', hqH, _⟩ := id yH
        -- a row, and told values
        refine ⟨_, rfl, _, rfl, q, _, 0, _, rfl, rfl, hqH, atI_nat (j := 0) rfl, p, c0, n, b, rfl, PH.less (by omega), by omega, fun tr r H13 etr fo kp13 P13 => ?_⟩
        refine gset_go (σ' := [some (.ref a), some (.ref p), some (.int (0 + (i : Int))), some (.ref q), some (.ref l), w5, some (.ref tr), v7, some vB, some (.ref x)]) rfl ?_
        dsimp only
        have y13 := yH.kp kp13
        have yo13 := yoH.kp kp13
        have T13 := tabs_kp TH kp13
        obtain ⟨ya2, ye2, yys2, yzs2, hq13, _⟩ := id y13
        refine fun d7 nd7 => ⟨(by show 1 ≤ sizeLine; decide), fun tn ntn => ?_⟩
        have sa := Same.new (o := .dK []) nd7
        have ea : (upd H13 d7 (.dK [])) d7 = some (.dK []) := upd_same
        generalize upd H13 d7 (.dK []) = Ha at sa ea ntn ⊢
        have sb := Same.new (o := .tup [V.non]) ntn
        have eb : (upd Ha tn (.tup [V.non])) tn = some (.tup [V.non]) := upd_same
        have sab := sa.trans sb
        have eab := sb _ _ ea
        generalize upd Ha tn (.tup [V.non]) = Hb at sb eb sab eab ⊢
        refine ⟨_, rfl, q, _, 0, _, rfl, rfl, Same.seqT sab hq13, atI_nat (j := 0) rfl, (by show 1 ≤ sizeLine; decide), fun u6 nu6 => ⟨(by show 1 ≤ sizeLine; decide), fun t6 nt6 => ⟨(by show 1 ≤ sizeLine; decide), fun t7 nt7 => ?_⟩⟩⟩
        have sc := Same.new (o := .tup [V.int (n : Int)]) nu6
        have ec : (upd Hb u6 (.tup [V.int (n : Int)])) u6 = some (.tup [V.int (n : Int)]) := upd_same
        generalize upd Hb u6 (.tup [V.int (n : Int)]) = Hc at sc ec nt6 nt7 ⊢
        have sd := Same.new (o := .tup [V.ref u6]) nt6
        have ed : (upd Hc t6 (.tup [V.ref u6])) t6 = some (.tup [V.ref u6]) := upd_same
        generalize upd Hc t6 (.tup [V.ref u6]) = Hd at sd ed nt7 ⊢
        have se := Same.new (o := .tup [V.str "0"]) nt7
        have ee : (upd Hd t7 (.tup [V.str "0"])) t7 = some (.tup [V.str "0"]) := upd_same
        generalize upd Hd t7 (.tup [V.str "0"]) = He at se ee ⊢
        intro o_ dx no ndx ne
        refine ⟨o_, CO, dx, rfl, KO.oc, upd_same, fun Hf fs eo hlk keep => ⟨rfl, ?_⟩⟩
        have se2 : Same He Hf := fun b' o e' => keep b' o (ne_of_none e' no) (((Same.new ndx).trans (Same.new (by rw [upd_ne (Ne.symm ne)]; exact no))) b' o e')
        refine ⟨_, rfl, (by show 9 ≤ sizeLine; decide), fun lv nlv => ⟨lv, rfl, ⟨_, SqL.of upd_same⟩, ?_⟩⟩
        have sf := Same.new (o := .lst [V.non, .int 5, .str "rows", .ref d7, .ref tn, .ref t6, .ref t7, .ref o_, .ref x]) nlv
        have elv : (upd Hf lv (.lst [V.non, .int 5, .str "rows", .ref d7, .ref tn, .ref t6, .ref t7, .ref o_, .ref x])) lv = some (.lst [V.non, .int 5, .str "rows", .ref d7, .ref tn, .ref t6, .ref t7, .ref o_, .ref x]) := upd_same
        have sEG := se2.trans sf
        have sDG := se.trans sEG
        have sCG := sd.trans sDG
        have sBG := sc.trans sCG
        have s13G := sab.trans sBG
        have g7 := sBG _ _ eab
        have gn := sBG _ _ eb
        have gu := sCG _ _ ec
        have g6 := sDG _ _ ed
        have g0 := sEG _ _ ee
        have go_ := sf _ _ eo
        have yoG := yo13.kp (.of_same s13G)
        generalize upd Hf lv (.lst [V.non, .int 5, .str "rows", .ref d7, .ref tn, .ref t6, .ref t7, .ref o_, .ref x]) = HG at elv g7 gn gu g6 g0 go_ yoG s13G ⊢
        clear sa sb sab sc sd se se2 sf sEG sDG sCG sBG
        have no2 : ∀ {A B : Prop}, B → if (!decide ((false : Bool) = false)) = true then A else B := fun {A B} h => iteF' rfl h
        have no3 : ∀ {A B : Prop}, B → if (!decide ((true : Bool) = true)) = true then A else B := fun {A B} h => iteF' rfl h
        refine for_list (K := K) (a := lv) (xs := [V.non, .int 5, .str "rows", .ref d7, .ref tn, .ref t6, .ref t7, .ref o_, .ref x]) (fun j σ H' => ∃ (w7 : Option V), σ = [some (.ref a), some (.ref p), some (.int (0 + (i : Int))), some (.ref q), some (.ref l), w5, some (.ref tr), w7, some vB, some (.ref x)] ∧ Same HG H') ⟨v7, rfl, Same.refl' _⟩ (fun j σ H' _ ⟨_, _, s⟩ => SqL.of (s _ _ elv)) ?_ ?_
        · rintro j y σ HK hj ⟨w7, rfl, s⟩
          have V1 : ∀ H', Same HK H' → ValOk K CO n H' y := fun H' s' => by
            have sG := s.trans s'
            exact val_vals (by omega) KO (sG _ _ g7) (sG _ _ gn) (sG _ _ g6) (sG _ _ gu) (sG _ _ g0) (sG _ _ go_) hlk (yoG.kp (.of_same sG)) y (List.mem_of_getElem? hj)
          have hv : (NoTup K HK y ∧ false = false) ∨ ∃ a es, y = .ref a ∧ SqT K HK a es ∧ ((es = [] ∧ false = true) ∨ (false = false ∧ ∃ e, es = [e] ∧ FT1 K HK n e false)) := by
            rcases (V1 HK (Same.refl' _)).1 with h | ⟨a', e, h1, h2, h3⟩
            · exact .inl ⟨h, rfl⟩
            · exact .inr ⟨a', [e], h1, h2, .inr ⟨rfl, e, rfl, h3⟩⟩
          refine ⟨_, rfl, _, rfl, x, y, n, ts, rs, false, rfl, (yoG.kp (.of_same s)).y, hv, fun H' s' => ?_⟩
          refine ⟨false, false, rfl, rfl, _, rfl, no2 ?_⟩
          refine ⟨_, rfl, _, rfl, _, rfl, x, .ref tr, y, n, ts, rs, r, rfl, (yoG.kp (.of_same (s.trans s'))).y, yp, nm, ⟨tr, rfl, s' _ _ (s _ _ (s13G _ _ etr))⟩, fo, (fun H'' s'' => (V1 H'' (s'.trans s'')).2), fun H'' s'' => ?_⟩
          refine ⟨false, false, rfl, rfl, _, rfl, no2 ?_⟩
          exact ⟨_, rfl, (s.trans s').trans s''⟩
        · rintro σ HK ⟨w7, rfl, s⟩
          refine ⟨_, rfl, (by show 0 ≤ sizeLine; decide), fun t0 nt0 => ?_⟩
          have s0 := Same.new (o := .tup ([] : List V)) nt0
          refine ⟨x, .ref t0, n, ts, rs, true, rfl, (yoG.kp (.of_same (s.trans s0))).y, .inr ⟨t0, [], rfl, SqT.of upd_same, .inl ⟨rfl, rfl⟩⟩, fun H' s' => ?_⟩
          refine ⟨true, true, rfl, rfl, _, rfl, no3 ?_⟩
          refine ⟨_, rfl, (by show 0 ≤ sizeLine; decide), fun l0 nl0 => ?_⟩
          have s3 := Same.new (o := .lst ([] : List V)) nl0
          have sZ := (s.trans s0).trans (s'.trans s3)
          refine ⟨x, .ref l0, n, ts, rs, false, rfl, (yoG.kp (.of_same sZ)).y, .inl ⟨no_tup (.lst (SqL.of upd_same) .nil) rfl, rfl⟩, fun H'' s'' => ?_⟩
          refine ⟨false, false, rfl, rfl, _, rfl, no2 ?_⟩
          have sE := s13G.trans (sZ.trans s'')
          exact ⟨_, _, _, _, _, _, _, _, rfl, (P13.same sE).less (by omega), T13.ext sE⟩
    · rintro σ H2 ⟨v2, v3, v4, v5, v6, v7, v8, v9, rfl, P2, T2⟩
      exact k H2
end
end Y
set_option Elab.async false
set_option linter.all false
set_option maxRecDepth 100000
set_option maxHeartbeats 4000000
namespace Y
open PySem PySem.Spec PyProof.Rows L2 LamX
theorem kit_own {K : PySem.W.Frag} {C : Addr} : PySem.W.kitOne K (.ref C) (.ref C) = some true := by
  unfold PySem.W.kitOne
  rw [if_pos (beq_self_eq_true _)]
theorem kit_no {K : PySem.W.Frag} {t : Value} {D : Addr} (ne : t ≠ .ref D) (h1 : PySem.W.isClsIn K D = true) (h2 : PySem.W.typeIn K (.ref D) = some (.type "type")) (h3 : PySem.W.subIn K t (.ref D) = some false) : PySem.W.kitOne K t (.ref D) = some false := by
  unfold PySem.W.kitOne
  rw [if_neg (fun e => ne (eq_of_beq e))]
  have e2 : ((PySem.W.clsIn K D).isSome && PySem.W.typeIn K (.ref D) == some (.type "type")) = true := by
    have h1' : (PySem.W.clsIn K D).isSome = true := h1
    rw [h1', h2] <;> rfl
  show (if ((PySem.W.clsIn K D).isSome && PySem.W.typeIn K (.ref D) == some (.type "type")) = true then PySem.W.subIn K t (.ref D) else none) = some false
  rw [if_pos e2]
  exact h3
theorem kit_noT {K : PySem.W.Frag} {C : Addr} (h : PySem.W.subIn K (.ref C) (.type "tuple") = some false) : PySem.W.kitOne K (.ref C) (.type "tuple") = some false := by
  unfold PySem.W.kitOne
  rw [if_neg (fun e => by have := eq_of_beq e; cases this)]
  show (if PySem.W.kitMeta "tuple" = true then PySem.W.subIn K (.ref C) (.type "tuple") else none) = some false
  rw [if_pos (by decide +kernel)]
  exact h
theorem exm_of {K : PySem.W.Frag} {C S : Addr} {b : Bool} (h1 : PySem.W.subIn K (.ref S) (.type "BaseException") = some true) (h2 : PySem.W.isClsIn K S = true) (h3 : PySem.W.typeIn K (.ref S) = some (.type "type")) (h4 : PySem.W.subIn K (.ref C) (.ref S) = some b) :
    PySem.W.exmOne K (.ref C) (.ref S) = some b := by
  have e1 : (PySem.W.subIn K (.ref S) (.type "BaseException") == some true) = true := by rw [h1] <;> rfl
  have e2 : ((PySem.W.clsIn K S).isSome && PySem.W.typeIn K (.ref S) == some (.type "type")) = true := by
    have h2' : (PySem.W.clsIn K S).isSome = true := h2
    rw [h2', h3] <;> rfl
  show (if (PySem.W.subIn K (.ref S) (.type "BaseException") == some true) = true then (if ((PySem.W.clsIn K S).isSome && PySem.W.typeIn K (.ref S) == some (.type "type")) = true then PySem.W.subIn K (.ref C) (.ref S) else none) else none) = some b
  rw [if_pos e1, if_pos e2]
  exact h4
theorem all_mk {l : PySem.W.OpenLaw} {w : World} {K : PySem.W.Frag} {h : Heap} {mg : Str → Option Value} {fa C0 C1 CR CT CG CM CN CY cL PL f0 f1 f2 f3 f4 f5 f6 f7 f8 f9 f10 f11 f12 f13 f14 f15 f16 f17 f18 f19 f20 f21 f22 f23 f24 f25 f26 f27 f28 f29 f30 f31 f32 f33 f34 f35 f36 f37 f38 f39 f40 f41 f42 f43 f44 : Addr} (X : K.In h) (G : h.Ns mainGlobals mg) (hfa : mg "law" = some (.ref fa))
    {nmR qR : Str} {NR : Addr} {bsR : List Value} {snR : List Str} {subR : List Value} {abR : Bool} {colR : Option Bool} {ddR : Option Addr} {m0R m1R m2R m3R m5R : Option Value}
    {nmT qT : Str} {NT : Addr} {bsT : List Value} {snT : List Str} {subT : List Value} {abT : Bool} {colT : Option Bool} {ddT : Option Addr} {m0T m1T m2T m3T m5T : Option Value}
    {nmG qG : Str} {NG : Addr} {bsG : List Value} {snG : List Str} {subG : List Value} {abG : Bool} {colG : Option Bool} {ddG : Option Addr} {m0G m1G m2G m3G m5G : Option Value}
    {nmM qM : Str} {NM : Addr} {bsM : List Value} {snM : List Str} {subM : List Value} {abM : Bool} {colM : Option Bool} {ddM : Option Addr} {m0M m1M m2M m3M m5M : Option Value}
    {nmN qN : Str} {NN : Addr} {bsN : List Value} {snN : List Str} {subN : List Value} {abN : Bool} {colN : Option Bool} {ddN : Option Addr} {m0N m1N m2N m3N m5N : Option Value}
    {eL : Value} {ddL : Option Addr} {vsL : Array Value} {slL : Array (Option Value)}
    {od0 an0 od1 an1 od2 an2 od3 an3 od4 an4 od5 an5 od6 an6 od7 an7 od8 an8 od9 an9 od10 an10 od11 an11 od12 an12 od13 an13 od14 an14 od15 an15 od16 an16 od17 an17 od18 an18 od19 an19 od20 an20 od21 an21 od22 an22 od23 an23 od24 an24 od25 an25 od26 an26 od27 an27 od28 an28 od29 an29 od30 an30 od31 an31 od32 an32 od33 an33 od34 an34 od35 an35 od36 an36 od37 an37 od38 an38 od39 an39 od40 an40 od41 an41 od42 an42 od43 an43 od44 an44 : Option Addr} {sl0 sl1 sl2 sl3 sl4 sl5 sl6 sl7 sl8 sl9 sl10 sl11 sl12 sl13 sl14 sl15 sl16 sl17 sl18 sl19 sl20 sl21 sl22 sl23 sl24 sl25 sl26 sl27 sl28 sl29 sl30 sl31 sl32 sl33 sl34 sl35 sl36 sl37 sl38 sl39 sl40 sl41 sl42 sl43 sl44 : Array (Option Value)} {oc0 kV0 dc0 pm0 cd0 ct0 oc1 kV1 dc1 pm1 cd1 ct1 oc2 kV2 dc2 pm2 cd2 ct2 oc3 kV3 dc3 pm3 cd3 ct3 oc4 kV4 dc4 pm4 cd4 ct4 oc5 kV5 dc5 pm5 cd5 ct5 oc6 kV6 dc6 pm6 cd6 ct6 oc7 kV7 dc7 pm7 cd7 ct7 oc8 kV8 dc8 pm8 cd8 ct8 oc9 kV9 dc9 pm9 cd9 ct9 oc10 kV10 dc10 pm10 cd10 ct10 oc11 kV11 dc11 pm11 cd11 ct11 oc12 kV12 dc12 pm12 cd12 ct12 oc13 kV13 dc13 pm13 cd13 ct13 oc14 kV14 dc14 pm14 cd14 ct14 oc15 kV15 dc15 pm15 cd15 ct15 oc16 kV16 dc16 pm16 cd16 ct16 oc17 kV17 dc17 pm17 cd17 ct17 oc18 kV18 dc18 pm18 cd18 ct18 oc19 kV19 dc19 pm19 cd19 ct19 oc20 kV20 dc20 pm20 cd20 ct20 oc21 kV21 dc21 pm21 cd21 ct21 oc22 kV22 dc22 pm22 cd22 ct22 oc23 kV23 dc23 pm23 cd23 ct23 oc24 kV24 dc24 pm24 cd24 ct24 oc25 kV25 dc25 pm25 cd25 ct25 oc26 kV26 dc26 pm26 cd26 ct26 oc27 kV27 dc27 pm27 cd27 ct27 oc28 kV28 dc28 pm28 cd28 ct28 oc29 kV29 dc29 pm29 cd29 ct29 oc30 kV30 dc30 pm30 cd30 ct30 oc31 kV31 dc31 pm31 cd31 ct31 oc32 kV32 dc32 pm32 cd32 ct32 oc33 kV33 dc33 pm33 cd33 ct33 oc34 kV34 dc34 pm34 cd34 ct34 oc35 kV35 dc35 pm35 cd35 ct35 oc36 kV36 dc36 pm36 cd36 ct36 oc37 kV37 dc37 pm37 cd37 ct37 oc38 kV38 dc38 pm38 cd38 ct38 oc39 kV39 dc39 pm39 cd39 ct39 oc40 kV40 dc40 pm40 cd40 ct40 oc41 kV41 dc41 pm41 cd41 ct41 oc42 kV42 dc42 pm42 cd42 ct42 oc43 kV43 dc43 pm43 cd43 ct43 oc44 kV44 dc44 pm44  ct44 : Value}
    (aC0 : PySem.W.nsIn K mainGlobals "Yard" = some (some (.ref C0)))
    (pg0 : PySem.W.plainGet K C0 Str.empty = true)
    (hd0 : PySem.W.hasDictIn K C0 = true)
    (po0 : PySem.W.plainOver K C0 = true)
    (sa0 : PySem.W.findIn K (.ref C0) "__setattr__" = some (some (.builtin "object.__setattr__")))
    (mk0 : PySem.W.makesIn K C0 = true)
    (kc0 : PySem.W.keepIn K (.ref C0) = true)
    (n0_0 : PySem.W.findIn K (.ref C0) "places" = some none)
    (n0_1 : PySem.W.findIn K (.ref C0) "ties" = some none)
    (n0_2 : PySem.W.findIn K (.ref C0) "rings" = some none)
    (yc0 : PySem.W.findIn K (.ref C0) "__class__" = some (some (.builtin "object.__class__")))
    (ym0 : PySem.W.mroIn K C0 (.type "object") = some true)
    (yt0 : PySem.W.subIn K (.ref C0) (.type "tuple") = some false)
    (aC1 : PySem.W.nsIn K mainGlobals "Outs" = some (some (.ref C1)))
    (pg1 : PySem.W.plainGet K C1 Str.empty = true)
    (hd1 : PySem.W.hasDictIn K C1 = true)
    (po1 : PySem.W.plainOver K C1 = true)
    (sa1 : PySem.W.findIn K (.ref C1) "__setattr__" = some (some (.builtin "object.__setattr__")))
    (mk1 : PySem.W.makesIn K C1 = true)
    (kc1 : PySem.W.keepIn K (.ref C1) = true)
    (n1_0 : PySem.W.findIn K (.ref C1) "home" = some none)
    (n1_1 : PySem.W.findIn K (.ref C1) "rows" = some none)
    (n1_2 : PySem.W.findIn K (.ref C1) "ways" = some none)
    (yc1 : PySem.W.findIn K (.ref C1) "__class__" = some (some (.builtin "object.__class__")))
    (ym1 : PySem.W.mroIn K C1 (.type "object") = some true)
    (yt1 : PySem.W.subIn K (.ref C1) (.type "tuple") = some false)
    (ye3 : PySem.W.specialIn K (.builtin "object.__class__") "__get__" = some (some (.builtin "getset_descriptor.__get__")))
    (ye4 : PySem.W.takesIn K (.builtin "object.__class__") = some true)
    (yi1 : PySem.W.isClsIn K C1 = true)
    (yy1 : PySem.W.typeIn K (.ref C1) = some (.type "type"))
    (yb0 : PySem.W.subIn K (.type "NoneType") (.ref C1) = some false)
    (yb1 : PySem.W.subIn K (.type "int") (.ref C1) = some false)
    (yb2 : PySem.W.subIn K (.type "str") (.ref C1) = some false)
    (yb3 : PySem.W.subIn K (.type "dict") (.ref C1) = some false)
    (yb4 : PySem.W.subIn K (.type "tuple") (.ref C1) = some false)
    (yo1 : PySem.W.subIn K (.ref C0) (.ref C1) = some false)
    (nC01 : C0 ≠ C1)
    (aER : PySem.W.nsIn K mainGlobals "BadRow" = some (some (.ref CR)))
    (gaR : PySem.W.findIn K (.ref CR) "__getattribute__" = some (some (.builtin "BaseException.__getattribute__")))
    (ggR : PySem.W.findIn K (.ref CR) "__getattr__" = some none)
    (eCR : PySem.W.subIn K (.ref CR) (.type "BaseException") = some true)
    (hCR : PySem.W.hasDictIn K CR = true)
    (nER0 : PySem.W.findIn K (.ref CR) "row" = some none)
    (tCR : PySem.W.typeIn K (.ref CR) = some (.type "type"))
    (iCR : PySem.W.isClsIn K CR = true)
    (xLR : K.lookup CR = some (excClassObj nmR qR CR NR bsR [.ref CY, .type "ValueError", .type "Exception", .type "BaseException", .type "object"] true snR subR abR colR ddR m0R m1R m2R m3R m5R "ValueError.__new__"))
    (saR : PySem.W.findIn K (.ref CR) "__setattr__" = some (some (.builtin "object.__setattr__")))
    (kCR : PySem.W.keepIn K (.ref CR) = true)
    (aET : PySem.W.nsIn K mainGlobals "BadTie" = some (some (.ref CT)))
    (gaT : PySem.W.findIn K (.ref CT) "__getattribute__" = some (some (.builtin "BaseException.__getattribute__")))
    (ggT : PySem.W.findIn K (.ref CT) "__getattr__" = some none)
    (eCT : PySem.W.subIn K (.ref CT) (.type "BaseException") = some true)
    (hCT : PySem.W.hasDictIn K CT = true)
    (nET0 : PySem.W.findIn K (.ref CT) "tie" = some none)
    (tCT : PySem.W.typeIn K (.ref CT) = some (.type "type"))
    (iCT : PySem.W.isClsIn K CT = true)
    (xLT : K.lookup CT = some (excClassObj nmT qT CT NT bsT [.ref CY, .type "ValueError", .type "Exception", .type "BaseException", .type "object"] true snT subT abT colT ddT m0T m1T m2T m3T m5T "ValueError.__new__"))
    (saT : PySem.W.findIn K (.ref CT) "__setattr__" = some (some (.builtin "object.__setattr__")))
    (kCT : PySem.W.keepIn K (.ref CT) = true)
    (aEG : PySem.W.nsIn K mainGlobals "BadRing" = some (some (.ref CG)))
    (gaG : PySem.W.findIn K (.ref CG) "__getattribute__" = some (some (.builtin "BaseException.__getattribute__")))
    (ggG : PySem.W.findIn K (.ref CG) "__getattr__" = some none)
    (eCG : PySem.W.subIn K (.ref CG) (.type "BaseException") = some true)
    (hCG : PySem.W.hasDictIn K CG = true)
    (nEG0 : PySem.W.findIn K (.ref CG) "index" = some none)
    (tCG : PySem.W.typeIn K (.ref CG) = some (.type "type"))
    (iCG : PySem.W.isClsIn K CG = true)
    (xLG : K.lookup CG = some (excClassObj nmG qG CG NG bsG [.ref CY, .type "ValueError", .type "Exception", .type "BaseException", .type "object"] true snG subG abG colG ddG m0G m1G m2G m3G m5G "ValueError.__new__"))
    (saG : PySem.W.findIn K (.ref CG) "__setattr__" = some (some (.builtin "object.__setattr__")))
    (kCG : PySem.W.keepIn K (.ref CG) = true)
    (aEM : PySem.W.nsIn K mainGlobals "BadMove" = some (some (.ref CM)))
    (gaM : PySem.W.findIn K (.ref CM) "__getattribute__" = some (some (.builtin "BaseException.__getattribute__")))
    (ggM : PySem.W.findIn K (.ref CM) "__getattr__" = some none)
    (eCM : PySem.W.subIn K (.ref CM) (.type "BaseException") = some true)
    (hCM : PySem.W.hasDictIn K CM = true)
    (nEM0 : PySem.W.findIn K (.ref CM) "index" = some none)
    (tCM : PySem.W.typeIn K (.ref CM) = some (.type "type"))
    (iCM : PySem.W.isClsIn K CM = true)
    (xLM : K.lookup CM = some (excClassObj nmM qM CM NM bsM [.ref CY, .type "ValueError", .type "Exception", .type "BaseException", .type "object"] true snM subM abM colM ddM m0M m1M m2M m3M m5M "ValueError.__new__"))
    (saM : PySem.W.findIn K (.ref CM) "__setattr__" = some (some (.builtin "object.__setattr__")))
    (kCM : PySem.W.keepIn K (.ref CM) = true)
    (aEN : PySem.W.nsIn K mainGlobals "BadNumber" = some (some (.ref CN)))
    (gaN : PySem.W.findIn K (.ref CN) "__getattribute__" = some (some (.builtin "BaseException.__getattribute__")))
    (ggN : PySem.W.findIn K (.ref CN) "__getattr__" = some none)
    (eCN : PySem.W.subIn K (.ref CN) (.type "BaseException") = some true)
    (hCN : PySem.W.hasDictIn K CN = true)
    (nEN0 : PySem.W.findIn K (.ref CN) "what" = some none)
    (nEN1 : PySem.W.findIn K (.ref CN) "number" = some none)
    (tCN : PySem.W.typeIn K (.ref CN) = some (.type "type"))
    (iCN : PySem.W.isClsIn K CN = true)
    (xLN : K.lookup CN = some (excClassObj nmN qN CN NN bsN [.ref CY, .type "ValueError", .type "Exception", .type "BaseException", .type "object"] true snN subN abN colN ddN m0N m1N m2N m3N m5N "ValueError.__new__"))
    (saN : PySem.W.findIn K (.ref CN) "__setattr__" = some (some (.builtin "object.__setattr__")))
    (kCN : PySem.W.keepIn K (.ref CN) = true)
    (sRR : PySem.W.subIn K (.ref CR) (.ref CR) = some true)
    (sTR : PySem.W.subIn K (.ref CT) (.ref CR) = some false)
    (sTT : PySem.W.subIn K (.ref CT) (.ref CT) = some true)
    (sGR : PySem.W.subIn K (.ref CG) (.ref CR) = some false)
    (sGT : PySem.W.subIn K (.ref CG) (.ref CT) = some false)
    (sGG : PySem.W.subIn K (.ref CG) (.ref CG) = some true)
    (sMR : PySem.W.subIn K (.ref CM) (.ref CR) = some false)
    (sMT : PySem.W.subIn K (.ref CM) (.ref CT) = some false)
    (sMG : PySem.W.subIn K (.ref CM) (.ref CG) = some false)
    (sMM : PySem.W.subIn K (.ref CM) (.ref CM) = some true)
    (sNR : PySem.W.subIn K (.ref CN) (.ref CR) = some false)
    (sNT : PySem.W.subIn K (.ref CN) (.ref CT) = some false)
    (sNG : PySem.W.subIn K (.ref CN) (.ref CG) = some false)
    (sNM : PySem.W.subIn K (.ref CN) (.ref CM) = some false)
    (sNN : PySem.W.subIn K (.ref CN) (.ref CN) = some true)
    (a0 : PySem.W.findIn K (.ref C0) "__init__" = some (some (.ref f0)))
    (i0 : PySem.W.isFn K (.ref f0) = true)
    (l0 : K.lookup f0 = some ⟨oc0, od0, .func (PySem.W.fnOf "__init__" "Yard.__init__" (defArgs sYInit) (defBody sYInit) (defScope sYInit) .none kV0 dc0 pm0 an0 cd0 ct0), sl0⟩)
    (c0 : PySem.W.codeIn K cd0 "Yard.__init__" = true)
    (k0 : PySem.W.keepIn K (.ref f0) = true)
    (a1 : PySem.W.findIn K (.ref CR) "__init__" = some (some (.ref f1)))
    (t1 : PySem.W.typeIn K (.ref f1) = some (.type "function"))
    (l1 : K.lookup f1 = some ⟨oc1, od1, .func (PySem.W.fnOf "__init__" "BadRow.__init__" (defArgs sRowI) (defBody sRowI) (defScope sRowI) .none kV1 dc1 pm1 an1 cd1 ct1), sl1⟩)
    (c1 : PySem.W.codeIn K cd1 "BadRow.__init__" = true)
    (k1 : PySem.W.keepIn K (.ref f1) = true)
    (a2 : PySem.W.findIn K (.ref C1) "__init__" = some (some (.ref f2)))
    (i2 : PySem.W.isFn K (.ref f2) = true)
    (l2 : K.lookup f2 = some ⟨oc2, od2, .func (PySem.W.fnOf "__init__" "Outs.__init__" (defArgs sOInit) (defBody sOInit) (defScope sOInit) .none kV2 dc2 pm2 an2 cd2 ct2), sl2⟩)
    (c2 : PySem.W.codeIn K cd2 "Outs.__init__" = true)
    (k2 : PySem.W.keepIn K (.ref f2) = true)
    (a3 : PySem.W.nsIn K mainGlobals "is_integer" = some (some (.ref f3)))
    (l3 : K.lookup f3 = some ⟨oc3, od3, .func (PySem.W.fnOf "is_integer" "is_integer" (defArgs sIsInt) (defBody sIsInt) (defScope sIsInt) .none kV3 dc3 pm3 an3 cd3 ct3), sl3⟩)
    (c3 : PySem.W.codeIn K cd3 "is_integer" = true)
    (k3 : PySem.W.keepIn K (.ref f3) = true)
    (a4 : PySem.W.nsIn K mainGlobals "is_count" = some (some (.ref f4)))
    (l4 : K.lookup f4 = some ⟨oc4, od4, .func (PySem.W.fnOf "is_count" "is_count" (defArgs sIsCount) (defBody sIsCount) (defScope sIsCount) .none kV4 dc4 pm4 an4 cd4 ct4), sl4⟩)
    (c4 : PySem.W.codeIn K cd4 "is_count" = true)
    (k4 : PySem.W.keepIn K (.ref f4) = true)
    (a5 : PySem.W.nsIn K mainGlobals "is_row" = some (some (.ref f5)))
    (l5 : K.lookup f5 = some ⟨oc5, od5, .func (PySem.W.fnOf "is_row" "is_row" (defArgs sIsRow) (defBody sIsRow) (defScope sIsRow) .none kV5 dc5 pm5 an5 cd5 ct5), sl5⟩)
    (c5 : PySem.W.codeIn K cd5 "is_row" = true)
    (k5 : PySem.W.keepIn K (.ref f5) = true)
    (a6 : PySem.W.nsIn K mainGlobals "frozen" = some (some (.ref f6)))
    (l6 : K.lookup f6 = some ⟨oc6, od6, .func (PySem.W.fnOf "frozen" "frozen" (defArgs sFroz) (defBody sFroz) (defScope sFroz) .none kV6 dc6 pm6 an6 cd6 ct6), sl6⟩)
    (c6 : PySem.W.codeIn K cd6 "frozen" = true)
    (k6 : PySem.W.keepIn K (.ref f6) = true)
    (a7 : PySem.W.nsIn K mainGlobals "are_unlike_numbers" = some (some (.ref f7)))
    (l7 : K.lookup f7 = some ⟨oc7, od7, .func (PySem.W.fnOf "are_unlike_numbers" "are_unlike_numbers" (defArgs sUnlike) (defBody sUnlike) (defScope sUnlike) .none kV7 dc7 pm7 an7 cd7 ct7), sl7⟩)
    (c7 : PySem.W.codeIn K cd7 "are_unlike_numbers" = true)
    (k7 : PySem.W.keepIn K (.ref f7) = true)
    (a8 : PySem.W.nsIn K mainGlobals "checked_ties" = some (some (.ref f8)))
    (l8 : K.lookup f8 = some ⟨oc8, od8, .func (PySem.W.fnOf "checked_ties" "checked_ties" (defArgs sCTies) (defBody sCTies) (defScope sCTies) .none kV8 dc8 pm8 an8 cd8 ct8), sl8⟩)
    (c8 : PySem.W.codeIn K cd8 "checked_ties" = true)
    (k8 : PySem.W.keepIn K (.ref f8) = true)
    (a9 : PySem.W.nsIn K mainGlobals "checked_rings" = some (some (.ref f9)))
    (l9 : K.lookup f9 = some ⟨oc9, od9, .func (PySem.W.fnOf "checked_rings" "checked_rings" (defArgs sCRings) (defBody sCRings) (defScope sCRings) .none kV9 dc9 pm9 an9 cd9 ct9), sl9⟩)
    (c9 : PySem.W.codeIn K cd9 "checked_rings" = true)
    (k9 : PySem.W.keepIn K (.ref f9) = true)
    (a10 : PySem.W.nsIn K mainGlobals "filled" = some (some (.ref f10)))
    (l10 : K.lookup f10 = some ⟨oc10, od10, .func (PySem.W.fnOf "filled" "filled" (defArgs sFilled) (defBody sFilled) (defScope sFilled) .none kV10 dc10 pm10 an10 cd10 ct10), sl10⟩)
    (c10 : PySem.W.codeIn K cd10 "filled" = true)
    (k10 : PySem.W.keepIn K (.ref f10) = true)
    (a11 : PySem.W.nsIn K mainGlobals "is_filled_row" = some (some (.ref f11)))
    (l11 : K.lookup f11 = some ⟨oc11, od11, .func (PySem.W.fnOf "is_filled_row" "is_filled_row" (defArgs sIsFilled) (defBody sIsFilled) (defScope sIsFilled) .none kV11 dc11 pm11 an11 cd11 ct11), sl11⟩)
    (c11 : PySem.W.codeIn K cd11 "is_filled_row" = true)
    (k11 : PySem.W.keepIn K (.ref f11) = true)
    (a12 : PySem.W.nsIn K mainGlobals "moves_at" = some (some (.ref f12)))
    (l12 : K.lookup f12 = some ⟨oc12, od12, .func (PySem.W.fnOf "moves_at" "moves_at" (defArgs sMovesAt) (defBody sMovesAt) (defScope sMovesAt) .none kV12 dc12 pm12 an12 cd12 ct12), sl12⟩)
    (c12 : PySem.W.codeIn K cd12 "moves_at" = true)
    (k12 : PySem.W.keepIn K (.ref f12) = true)
    (a13 : PySem.W.nsIn K mainGlobals "behind_move" = some (some (.ref f13)))
    (l13 : K.lookup f13 = some ⟨oc13, od13, .func (PySem.W.fnOf "behind_move" "behind_move" (defArgs sBehind) (defBody sBehind) (defScope sBehind) .none kV13 dc13 pm13 an13 cd13 ct13), sl13⟩)
    (c13 : PySem.W.codeIn K cd13 "behind_move" = true)
    (k13 : PySem.W.keepIn K (.ref f13) = true)
    (a14 : PySem.W.nsIn K mainGlobals "check_row" = some (some (.ref f14)))
    (l14 : K.lookup f14 = some ⟨oc14, od14, .func (PySem.W.fnOf "check_row" "check_row" (defArgs sChk) (defBody sChk) (defScope sChk) .none kV14 dc14 pm14 an14 cd14 ct14), sl14⟩)
    (c14 : PySem.W.codeIn K cd14 "check_row" = true)
    (k14 : PySem.W.keepIn K (.ref f14) = true)
    (a15 : PySem.W.nsIn K mainGlobals "steps_at" = some (some (.ref f15)))
    (l15 : K.lookup f15 = some ⟨oc15, od15, .func (PySem.W.fnOf "steps_at" "steps_at" (defArgs sSteps) (defBody sSteps) (defScope sSteps) .none kV15 dc15 pm15 an15 cd15 ct15), sl15⟩)
    (c15 : PySem.W.codeIn K cd15 "steps_at" = true)
    (k15 : PySem.W.keepIn K (.ref f15) = true)
    (a16 : PySem.W.nsIn K mainGlobals "ways_from" = some (some (.ref f16)))
    (l16 : K.lookup f16 = some ⟨oc16, od16, .func (PySem.W.fnOf "ways_from" "ways_from" (defArgs sWays) (defBody sWays) (defScope sWays) .none kV16 dc16 pm16 an16 cd16 ct16), sl16⟩)
    (c16 : PySem.W.codeIn K cd16 "ways_from" = true)
    (k16 : PySem.W.keepIn K (.ref f16) = true)
    (a17 : PySem.W.nsIn K mainGlobals "lot_of" = some (some (.ref f17)))
    (l17 : K.lookup f17 = some ⟨oc17, od17, .func (PySem.W.fnOf "lot_of" "lot_of" (defArgs sLot) (defBody sLot) (defScope sLot) .none kV17 dc17 pm17 an17 cd17 ct17), sl17⟩)
    (c17 : PySem.W.codeIn K cd17 "lot_of" = true)
    (k17 : PySem.W.keepIn K (.ref f17) = true)
    (a18 : PySem.W.nsIn K mainGlobals "is_filled_tuple" = some (some (.ref f18)))
    (l18 : K.lookup f18 = some ⟨oc18, od18, .func (PySem.W.fnOf "is_filled_tuple" "is_filled_tuple" (defArgs sFT) (defBody sFT) (defScope sFT) .none kV18 dc18 pm18 an18 cd18 ct18), sl18⟩)
    (c18 : PySem.W.codeIn K cd18 "is_filled_tuple" = true)
    (k18 : PySem.W.keepIn K (.ref f18) = true)
    (a19 : PySem.W.nsIn K mainGlobals "are_filled_tuples" = some (some (.ref f19)))
    (l19 : K.lookup f19 = some ⟨oc19, od19, .func (PySem.W.fnOf "are_filled_tuples" "are_filled_tuples" (defArgs sFTs) (defBody sFTs) (defScope sFTs) .none kV19 dc19 pm19 an19 cd19 ct19), sl19⟩)
    (c19 : PySem.W.codeIn K cd19 "are_filled_tuples" = true)
    (k19 : PySem.W.keepIn K (.ref f19) = true)
    (a20 : PySem.W.nsIn K mainGlobals "is_closed" = some (some (.ref f20)))
    (l20 : K.lookup f20 = some ⟨oc20, od20, .func (PySem.W.fnOf "is_closed" "is_closed" (defArgs sClo) (defBody sClo) (defScope sClo) .none kV20 dc20 pm20 an20 cd20 ct20), sl20⟩)
    (c20 : PySem.W.codeIn K cd20 "is_closed" = true)
    (k20 : PySem.W.keepIn K (.ref f20) = true)
    (a21 : PySem.W.nsIn K mainGlobals "deep_order" = some (some (.ref f21)))
    (l21 : K.lookup f21 = some ⟨oc21, od21, .func (PySem.W.fnOf "deep_order" "deep_order" (defArgs sDeep) (defBody sDeep) (defScope sDeep) .none kV21 dc21 pm21 an21 cd21 ct21), sl21⟩)
    (c21 : PySem.W.codeIn K cd21 "deep_order" = true)
    (k21 : PySem.W.keepIn K (.ref f21) = true)
    (a22 : PySem.W.nsIn K mainGlobals "parts_of" = some (some (.ref f22)))
    (l22 : K.lookup f22 = some ⟨oc22, od22, .func (PySem.W.fnOf "parts_of" "parts_of" (defArgs sParts) (defBody sParts) (defScope sParts) .none kV22 dc22 pm22 an22 cd22 ct22), sl22⟩)
    (c22 : PySem.W.codeIn K cd22 "parts_of" = true)
    (k22 : PySem.W.keepIn K (.ref f22) = true)
    (a23 : PySem.W.nsIn K mainGlobals "lost_tie" = some (some (.ref f23)))
    (l23 : K.lookup f23 = some ⟨oc23, od23, .func (PySem.W.fnOf "lost_tie" "lost_tie" (defArgs sLost) (defBody sLost) (defScope sLost) .none kV23 dc23 pm23 an23 cd23 ct23), sl23⟩)
    (c23 : PySem.W.codeIn K cd23 "lost_tie" = true)
    (k23 : PySem.W.keepIn K (.ref f23) = true)
    (a24 : PySem.W.nsIn K mainGlobals "check_returning" = some (some (.ref f24)))
    (l24 : K.lookup f24 = some ⟨oc24, od24, .func (PySem.W.fnOf "check_returning" "check_returning" (defArgs sRet) (defBody sRet) (defScope sRet) .none kV24 dc24 pm24 an24 cd24 ct24), sl24⟩)
    (c24 : PySem.W.codeIn K cd24 "check_returning" = true)
    (k24 : PySem.W.keepIn K (.ref f24) = true)
    (a25 : PySem.W.nsIn K mainGlobals "outs_of" = some (some (.ref f25)))
    (l25 : K.lookup f25 = some ⟨oc25, od25, .func (PySem.W.fnOf "outs_of" "outs_of" (defArgs sOutsOf) (defBody sOutsOf) (defScope sOutsOf) .none kV25 dc25 pm25 an25 cd25 ct25), sl25⟩)
    (c25 : PySem.W.codeIn K cd25 "outs_of" = true)
    (k25 : PySem.W.keepIn K (.ref f25) = true)
    (a26 : PySem.W.nsIn K mainGlobals "are_outs" = some (some (.ref f26)))
    (l26 : K.lookup f26 = some ⟨oc26, od26, .func (PySem.W.fnOf "are_outs" "are_outs" (defArgs sAre) (defBody sAre) (defScope sAre) .none kV26 dc26 pm26 an26 cd26 ct26), sl26⟩)
    (c26 : PySem.W.codeIn K cd26 "are_outs" = true)
    (k26 : PySem.W.keepIn K (.ref f26) = true)
    (a27 : PySem.W.nsIn K mainGlobals "way_home" = some (some (.ref f27)))
    (l27 : K.lookup f27 = some ⟨oc27, od27, .func (PySem.W.fnOf "way_home" "way_home" (defArgs sHome) (defBody sHome) (defScope sHome) .none kV27 dc27 pm27 an27 cd27 ct27), sl27⟩)
    (c27 : PySem.W.codeIn K cd27 "way_home" = true)
    (k27 : PySem.W.keepIn K (.ref f27) = true)
    (a28 : PySem.W.nsIn K mainGlobals "_law_pen" = some (some (.ref f28)))
    (l28 : K.lookup f28 = some ⟨oc28, od28, .func (PySem.W.fnOf "_law_pen" "_law_pen" (defArgs sPen) (defBody sPen) (defScope sPen) .none kV28 dc28 pm28 an28 cd28 ct28), sl28⟩)
    (c28 : PySem.W.codeIn K cd28 "_law_pen" = true)
    (k28 : PySem.W.keepIn K (.ref f28) = true)
    (a29 : PySem.W.nsIn K mainGlobals "_law_draw" = some (some (.ref f29)))
    (l29 : K.lookup f29 = some ⟨oc29, od29, .func (PySem.W.fnOf "_law_draw" "_law_draw" (defArgs sDraw) (defBody sDraw) (defScope sDraw) .none kV29 dc29 pm29 an29 cd29 ct29), sl29⟩)
    (c29 : PySem.W.codeIn K cd29 "_law_draw" = true)
    (k29 : PySem.W.keepIn K (.ref f29) = true)
    (a30 : PySem.W.nsIn K mainGlobals "_law_pick" = some (some (.ref f30)))
    (l30 : K.lookup f30 = some ⟨oc30, od30, .func (PySem.W.fnOf "_law_pick" "_law_pick" (defArgs sPick) (defBody sPick) (defScope sPick) .none kV30 dc30 pm30 an30 cd30 ct30), sl30⟩)
    (c30 : PySem.W.codeIn K cd30 "_law_pick" = true)
    (k30 : PySem.W.keepIn K (.ref f30) = true)
    (a31 : PySem.W.nsIn K mainGlobals "_law_drawn_yard" = some (some (.ref f31)))
    (l31 : K.lookup f31 = some ⟨oc31, od31, .func (PySem.W.fnOf "_law_drawn_yard" "_law_drawn_yard" (defArgs sDYard) (defBody sDYard) (defScope sDYard) .none kV31 dc31 pm31 an31 cd31 ct31), sl31⟩)
    (c31 : PySem.W.codeIn K cd31 "_law_drawn_yard" = true)
    (k31 : PySem.W.keepIn K (.ref f31) = true)
    (a32 : PySem.W.nsIn K mainGlobals "_law_without" = some (some (.ref f32)))
    (l32 : K.lookup f32 = some ⟨oc32, od32, .func (PySem.W.fnOf "_law_without" "_law_without" (defArgs sWithout) (defBody sWithout) (defScope sWithout) .none kV32 dc32 pm32 an32 cd32 ct32), sl32⟩)
    (c32 : PySem.W.codeIn K cd32 "_law_without" = true)
    (k32 : PySem.W.keepIn K (.ref f32) = true)
    (a33 : PySem.W.nsIn K mainGlobals "_law_drawn_ring" = some (some (.ref f33)))
    (l33 : K.lookup f33 = some ⟨oc33, od33, .func (PySem.W.fnOf "_law_drawn_ring" "_law_drawn_ring" (defArgs sRing) (defBody sRing) (defScope sRing) .none kV33 dc33 pm33 an33 cd33 ct33), sl33⟩)
    (c33 : PySem.W.codeIn K cd33 "_law_drawn_ring" = true)
    (k33 : PySem.W.keepIn K (.ref f33) = true)
    (a34 : PySem.W.nsIn K mainGlobals "_law_drawn_stand" = some (some (.ref f34)))
    (l34 : K.lookup f34 = some ⟨oc34, od34, .func (PySem.W.fnOf "_law_drawn_stand" "_law_drawn_stand" (defArgs sStand) (defBody sStand) (defScope sStand) .none kV34 dc34 pm34 an34 cd34 ct34), sl34⟩)
    (c34 : PySem.W.codeIn K cd34 "_law_drawn_stand" = true)
    (k34 : PySem.W.keepIn K (.ref f34) = true)
    (a35 : PySem.W.nsIn K mainGlobals "_law_filled" = some (some (.ref f35)))
    (l35 : K.lookup f35 = some ⟨oc35, od35, .func (PySem.W.fnOf "_law_filled" "_law_filled" (defArgs sLF) (defBody sLF) (defScope sLF) .none kV35 dc35 pm35 an35 cd35 ct35), sl35⟩)
    (c35 : PySem.W.codeIn K cd35 "_law_filled" = true)
    (k35 : PySem.W.keepIn K (.ref f35) = true)
    (a36 : PySem.W.nsIn K mainGlobals "_law_why" = some (some (.ref f36)))
    (l36 : K.lookup f36 = some ⟨oc36, od36, .func (PySem.W.fnOf "_law_why" "_law_why" (defArgs sWhy) (defBody sWhy) (defScope sWhy) .none kV36 dc36 pm36 an36 cd36 ct36), sl36⟩)
    (c36 : PySem.W.codeIn K cd36 "_law_why" = true)
    (k36 : PySem.W.keepIn K (.ref f36) = true)
    (a37 : PySem.W.nsIn K mainGlobals "_law_same" = some (some (.ref f37)))
    (l37 : K.lookup f37 = some ⟨oc37, od37, .func (PySem.W.fnOf "_law_same" "_law_same" (defArgs sSame) (defBody sSame) (defScope sSame) .none kV37 dc37 pm37 an37 cd37 ct37), sl37⟩)
    (c37 : PySem.W.codeIn K cd37 "_law_same" = true)
    (k37 : PySem.W.keepIn K (.ref f37) = true)
    (a38 : PySem.W.nsIn K mainGlobals "_law_shuffled" = some (some (.ref f38)))
    (l38 : K.lookup f38 = some ⟨oc38, od38, .func (PySem.W.fnOf "_law_shuffled" "_law_shuffled" (defArgs sShuf) (defBody sShuf) (defScope sShuf) .none kV38 dc38 pm38 an38 cd38 ct38), sl38⟩)
    (c38 : PySem.W.codeIn K cd38 "_law_shuffled" = true)
    (k38 : PySem.W.keepIn K (.ref f38) = true)
    (a39 : PySem.W.nsIn K mainGlobals "_law_listed" = some (some (.ref f39)))
    (l39 : K.lookup f39 = some ⟨oc39, od39, .func (PySem.W.fnOf "_law_listed" "_law_listed" (defArgs sListed) (defBody sListed) (defScope sListed) .none kV39 dc39 pm39 an39 cd39 ct39), sl39⟩)
    (c39 : PySem.W.codeIn K cd39 "_law_listed" = true)
    (k39 : PySem.W.keepIn K (.ref f39) = true)
    (a40 : PySem.W.nsIn K mainGlobals "_law_made_yard" = some (some (.ref f40)))
    (l40 : K.lookup f40 = some ⟨oc40, od40, .func (PySem.W.fnOf "_law_made_yard" "_law_made_yard" (defArgs sMade) (defBody sMade) (defScope sMade) .none kV40 dc40 pm40 an40 cd40 ct40), sl40⟩)
    (c40 : PySem.W.codeIn K cd40 "_law_made_yard" = true)
    (k40 : PySem.W.keepIn K (.ref f40) = true)
    (a41 : PySem.W.nsIn K mainGlobals "_law_some_yard" = some (some (.ref f41)))
    (l41 : K.lookup f41 = some ⟨oc41, od41, .func (PySem.W.fnOf "_law_some_yard" "_law_some_yard" (defArgs sSYard) (defBody sSYard) (defScope sSYard) .none kV41 dc41 pm41 an41 cd41 ct41), sl41⟩)
    (c41 : PySem.W.codeIn K cd41 "_law_some_yard" = true)
    (k41 : PySem.W.keepIn K (.ref f41) = true)
    (a42 : PySem.W.nsIn K mainGlobals "_law_some_row" = some (some (.ref f42)))
    (l42 : K.lookup f42 = some ⟨oc42, od42, .func (PySem.W.fnOf "_law_some_row" "_law_some_row" (defArgs sSRow) (defBody sSRow) (defScope sSRow) .none kV42 dc42 pm42 an42 cd42 ct42), sl42⟩)
    (c42 : PySem.W.codeIn K cd42 "_law_some_row" = true)
    (k42 : PySem.W.keepIn K (.ref f42) = true)
    (a43 : PySem.W.nsIn K mainGlobals "_law_odd_row" = some (some (.ref f43)))
    (l43 : K.lookup f43 = some ⟨oc43, od43, .func (PySem.W.fnOf "_law_odd_row" "_law_odd_row" (defArgs sOddR) (defBody sOddR) (defScope sOddR) .none kV43 dc43 pm43 an43 cd43 ct43), sl43⟩)
    (c43 : PySem.W.codeIn K cd43 "_law_odd_row" = true)
    (k43 : PySem.W.keepIn K (.ref f43) = true)
    (a44 : PySem.W.nsIn K mainGlobals "law" = some (some (.ref f44)))
    (l44 : K.lookup f44 = some ⟨oc44, od44, .func (PySem.W.fnOf "law" "law" (defArgs sLaw) (defBody sLaw) (defScope sLaw) .none kV44 dc44 pm44 an44 (.ref cL) ct44), sl44⟩)
    (c44 : PySem.W.codeIn K (.ref cL) "law" = true)
    (k44 : PySem.W.keepIn K (.ref f44) = true)
    (z0 : PySem.W.nsIn K mainGlobals "isinstance" = some none)
    (z1 : PySem.W.nsIn K mainGlobals "int" = some none)
    (z2 : PySem.W.nsIn K mainGlobals "bool" = some none)
    (z3 : PySem.W.nsIn K mainGlobals "tuple" = some none)
    (z4 : PySem.W.nsIn K mainGlobals "list" = some none)
    (z5 : PySem.W.nsIn K mainGlobals "len" = some none)
    (z6 : PySem.W.nsIn K mainGlobals "all" = some none)
    (z7 : PySem.W.nsIn K mainGlobals "set" = some none)
    (z8 : PySem.W.nsIn K mainGlobals "sorted" = some none)
    (z9 : PySem.W.nsIn K mainGlobals "enumerate" = some none)
    (z10 : PySem.W.nsIn K mainGlobals "range" = some none)
    (z11 : PySem.W.nsIn K mainGlobals "min" = some none)
    (z12 : PySem.W.nsIn K mainGlobals "repr" = some none)
    (z13 : PySem.W.nsIn K mainGlobals "reversed" = some none)
    (xTL : K.lookup cL = some ⟨eL, ddL, .fields vsL, slL⟩)
    (pTL : vsL[11]? = some (.ref PL))
    (hTL : PySem.W.codeHdIn K cL PL = true)
    (nTL : K.lookup PL = none)
    (tTL : h.get? PL = some { cls := .none, data := .fields #[] }) :
    LawG l w K 14 63 "_law_script" mg fa h := by
  have e := hfa.symm.trans (PySem.W.mg_of X G a44)
  cases e
  have F0 := fun_mk (st := sYInit) l0 c0 k0
  have b0 := F0.binds (ps := ["self", "places", "ties", "rings"]) fun _ _ _ _ _ _ us hl => match us, hl with | [_, _, _, _], _ => rfl
  have F1 := fun_mk (st := sRowI) l1 c1 k1
  have b1 := F1.binds (ps := ["self", "row"]) fun _ _ _ _ _ _ us hl => match us, hl with | [_, _], _ => rfl
  have F2 := fun_mk (st := sOInit) l2 c2 k2
  have b2 := F2.binds (ps := ["self", "home", "rows", "ways"]) fun _ _ _ _ _ _ us hl => match us, hl with | [_, _, _, _], _ => rfl
  have F3 := fun_mk (st := sIsInt) l3 c3 k3
  have b3 := F3.binds (ps := ["value"]) fun _ _ _ _ _ _ us hl => match us, hl with | [_], _ => rfl
  have F4 := fun_mk (st := sIsCount) l4 c4 k4
  have b4 := F4.binds (ps := ["value"]) fun _ _ _ _ _ _ us hl => match us, hl with | [_], _ => rfl
  have F5 := fun_mk (st := sIsRow) l5 c5 k5
  have b5 := F5.binds (ps := ["value"]) fun _ _ _ _ _ _ us hl => match us, hl with | [_], _ => rfl
  have F6 := fun_mk (st := sFroz) l6 c6 k6
  have b6 := F6.binds (ps := ["value"]) fun _ _ _ _ _ _ us hl => match us, hl with | [_], _ => rfl
  have F7 := fun_mk (st := sUnlike) l7 c7 k7
  have b7 := F7.binds (ps := ["many", "value"]) fun _ _ _ _ _ _ us hl => match us, hl with | [_, _], _ => rfl
  have F8 := fun_mk (st := sCTies) l8 c8 k8
  have b8 := F8.binds (ps := ["places", "ties"]) fun _ _ _ _ _ _ us hl => match us, hl with | [_, _], _ => rfl
  have F9 := fun_mk (st := sCRings) l9 c9 k9
  have b9 := F9.binds (ps := ["places", "rings"]) fun _ _ _ _ _ _ us hl => match us, hl with | [_, _], _ => rfl
  have F10 := fun_mk (st := sFilled) l10 c10 k10
  have b10 := F10.binds (ps := ["stand"]) fun _ _ _ _ _ _ us hl => match us, hl with | [_], _ => rfl
  have F11 := fun_mk (st := sIsFilled) l11 c11 k11
  have b11 := F11.binds (ps := ["yard", "value"]) fun _ _ _ _ _ _ us hl => match us, hl with | [_, _], _ => rfl
  have F12 := fun_mk (st := sMovesAt) l12 c12 k12
  have b12 := F12.binds (ps := ["yard", "row"]) fun _ _ _ _ _ _ us hl => match us, hl with | [_, _], _ => rfl
  have F13 := fun_mk (st := sBehind) l13 c13 k13
  have b13 := F13.binds (ps := ["yard", "stand", "move"]) fun _ _ _ _ _ _ us hl => match us, hl with | [_, _, _], _ => rfl
  have F14 := fun_mk (st := sChk) l14 c14 k14
  have b14 := F14.binds (ps := ["yard", "row"]) fun _ _ _ _ _ _ us hl => match us, hl with | [_, _], _ => rfl
  have F15 := fun_mk (st := sSteps) l15 c15 k15
  have b15 := F15.binds (ps := ["yard", "row"]) fun _ _ _ _ _ _ us hl => match us, hl with | [_, _], _ => rfl
  have F16 := fun_mk (st := sWays) l16 c16 k16
  have b16 := F16.binds (ps := ["yard", "row"]) fun _ _ _ _ _ _ us hl => match us, hl with | [_, _], _ => rfl
  have F17 := fun_mk (st := sLot) l17 c17 k17
  have b17 := F17.binds (ps := ["yard", "row"]) fun _ _ _ _ _ _ us hl => match us, hl with | [_, _], _ => rfl
  have F18 := fun_mk (st := sFT) l18 c18 k18
  have b18 := F18.binds (ps := ["yard", "value"]) fun _ _ _ _ _ _ us hl => match us, hl with | [_, _], _ => rfl
  have F19 := fun_mk (st := sFTs) l19 c19 k19
  have b19 := F19.binds (ps := ["yard", "value"]) fun _ _ _ _ _ _ us hl => match us, hl with | [_, _], _ => rfl
  have F20 := fun_mk (st := sClo) l20 c20 k20
  have b20 := F20.binds (ps := ["yard", "rows"]) fun _ _ _ _ _ _ us hl => match us, hl with | [_, _], _ => rfl
  have F21 := fun_mk (st := sDeep) l21 c21 k21
  have b21 := F21.binds (ps := ["ahead"]) fun _ _ _ _ _ _ us hl => match us, hl with | [_], _ => rfl
  have F22 := fun_mk (st := sParts) l22 c22 k22
  have b22 := F22.binds (ps := ["ahead"]) fun _ _ _ _ _ _ us hl => match us, hl with | [_], _ => rfl
  have F23 := fun_mk (st := sLost) l23 c23 k23
  have b23 := F23.binds (ps := ["yard", "row"]) fun _ _ _ _ _ _ us hl => match us, hl with | [_, _], _ => rfl
  have F24 := fun_mk (st := sRet) l24 c24 k24
  have b24 := F24.binds (ps := ["yard", "row"]) fun _ _ _ _ _ _ us hl => match us, hl with | [_, _], _ => rfl
  have F25 := fun_mk (st := sOutsOf) l25 c25 k25
  have b25 := F25.binds (ps := ["yard", "row"]) fun _ _ _ _ _ _ us hl => match us, hl with | [_, _], _ => rfl
  have F26 := fun_mk (st := sAre) l26 c26 k26
  have b26 := F26.binds (ps := ["yard", "row", "told"]) fun _ _ _ _ _ _ us hl => match us, hl with | [_, _, _], _ => rfl
  have F27 := fun_mk (st := sHome) l27 c27 k27
  have b27 := F27.binds (ps := ["yard", "row"]) fun _ _ _ _ _ _ us hl => match us, hl with | [_, _], _ => rfl
  have F28 := fun_mk (st := sPen) l28 c28 k28
  have b28 := F28.binds (ps := ["_law_script"]) fun _ _ _ _ _ _ us hl => match us, hl with | [_], _ => rfl
  have F29 := fun_mk (st := sDraw) l29 c29 k29
  have b29 := F29.binds (ps := ["_law_pen_here", "_law_many"]) fun _ _ _ _ _ _ us hl => match us, hl with | [_, _], _ => rfl
  have F30 := fun_mk (st := sPick) l30 c30 k30
  have b30 := F30.binds (ps := ["_law_pen_here", "_law_some"]) fun _ _ _ _ _ _ us hl => match us, hl with | [_, _], _ => rfl
  have F31 := fun_mk (st := sDYard) l31 c31 k31
  have b31 := F31.binds (ps := ["_law_pen_here", "_law_most", "_law_ways", "_law_rings"]) fun _ _ _ _ _ _ us hl => match us, hl with | [_, _, _, _], _ => rfl
  have F32 := fun_mk (st := sWithout) l32 c32 k32
  have b32 := F32.binds (ps := ["_law_pairs", "_law_gone"]) fun _ _ _ _ _ _ us hl => match us, hl with | [_, _], _ => rfl
  have F33 := fun_mk (st := sRing) l33 c33 k33
  have b33 := F33.binds (ps := ["_law_pen_here", "_law_places"]) fun _ _ _ _ _ _ us hl => match us, hl with | [_, _], _ => rfl
  have F34 := fun_mk (st := sStand) l34 c34 k34
  have b34 := F34.binds (ps := ["_law_pen_here", "_law_places", "_law_holes", "_law_kinds"]) fun _ _ _ _ _ _ us hl => match us, hl with | [_, _, _, _], _ => rfl
  have F35 := fun_mk (st := sLF) l35 c35 k35
  have b35 := F35.binds (ps := ["_law_stand"]) fun _ _ _ _ _ _ us hl => match us, hl with | [_], _ => rfl
  have F36 := fun_mk (st := sWhy) l36 c36 k36
  have b36 := F36.binds (ps := ["_law_call"]) fun _ _ _ _ _ _ us hl => match us, hl with | [_], _ => rfl
  have F37 := fun_mk (st := sSame) l37 c37 k37
  have b37 := F37.binds (ps := ["_law_one", "_law_other"]) fun _ _ _ _ _ _ us hl => match us, hl with | [_, _], _ => rfl
  have F38 := fun_mk (st := sShuf) l38 c38 k38
  have b38 := F38.binds (ps := ["_law_pen_here", "_law_some"]) fun _ _ _ _ _ _ us hl => match us, hl with | [_, _], _ => rfl
  have F39 := fun_mk (st := sListed) l39 c39 k39
  have b39 := F39.binds (ps := ["_law_pen_here", "_law_some"]) fun _ _ _ _ _ _ us hl => match us, hl with | [_, _], _ => rfl
  have F40 := fun_mk (st := sMade) l40 c40 k40
  have b40 := F40.binds (ps := ["_law_pen_here", "_law_yard"]) fun _ _ _ _ _ _ us hl => match us, hl with | [_, _], _ => rfl
  have F41 := fun_mk (st := sSYard) l41 c41 k41
  have b41 := F41.binds (ps := ["_law_pen_here", "_law_most"]) fun _ _ _ _ _ _ us hl => match us, hl with | [_, _], _ => rfl
  have F42 := fun_mk (st := sSRow) l42 c42 k42
  have b42 := F42.binds (ps := ["_law_pen_here", "_law_places"]) fun _ _ _ _ _ _ us hl => match us, hl with | [_, _], _ => rfl
  have F43 := fun_mk (st := sOddR) l43 c43 k43
  have b43 := F43.binds (ps := ["_law_pen_here", "_law_places"]) fun _ _ _ _ _ _ us hl => match us, hl with | [_, _], _ => rfl
  have F44 := fun_mk (st := sLaw) l44 c44 k44
  refine ⟨PySem.W.fnOf "law" "law" (defArgs sLaw) (defBody sLaw) (defScope sLaw) .none kV44 dc44 pm44 an44 (.ref cL) ct44, [(cL, PL)], spLaw K PL, ⟨fun p hp => ?_, fun p hp => ?_, fun p hp => ?_⟩, fun s v => .of_eq rfl, fun H a ns hl hH hS => ⟨a, ns, rfl, hS, hl, hH (cL, PL) (List.mem_singleton.mpr rfl), fun _ => rfl⟩, fun base _ _ hTB => ?_⟩
  · rw [List.mem_singleton.mp hp]
    exact tTL
  · rw [List.mem_singleton.mp hp]
    exact nTL
  · rw [List.mem_singleton.mp hp]
    exact PySem.W.codeHd_of_K X hTL
  have TBL := hTB (cL, PL) (List.mem_singleton.mpr rfl)
  have xcR : XcC K CR := ⟨⟨⟨nmR, qR, NR, bsR, _, snR, subR, abR, colR, ddR, m0R, m1R, m2R, m3R, m5R, xLR, rfl⟩, saR, eCR, tCR, kCR⟩, ⟨gaR, ggR, eCR, hCR⟩, sRR, iCR⟩
  have xcT : XcC K CT := ⟨⟨⟨nmT, qT, NT, bsT, _, snT, subT, abT, colT, ddT, m0T, m1T, m2T, m3T, m5T, xLT, rfl⟩, saT, eCT, tCT, kCT⟩, ⟨gaT, ggT, eCT, hCT⟩, sTT, iCT⟩
  have xcG : XcC K CG := ⟨⟨⟨nmG, qG, NG, bsG, _, snG, subG, abG, colG, ddG, m0G, m1G, m2G, m3G, m5G, xLG, rfl⟩, saG, eCG, tCG, kCG⟩, ⟨gaG, ggG, eCG, hCG⟩, sGG, iCG⟩
  have xcM : XcC K CM := ⟨⟨⟨nmM, qM, NM, bsM, _, snM, subM, abM, colM, ddM, m0M, m1M, m2M, m3M, m5M, xLM, rfl⟩, saM, eCM, tCM, kCM⟩, ⟨gaM, ggM, eCM, hCM⟩, sMM, iCM⟩
  have xcN : XcC K CN := ⟨⟨⟨nmN, qN, NN, bsN, _, snN, subN, abN, colN, ddN, m0N, m1N, m2N, m3N, m5N, xLN, rfl⟩, saN, eCN, tCN, kCN⟩, ⟨gaN, ggN, eCN, hCN⟩, sNN, iCN⟩
  have xR : XE1 K mg "BadRow" "row" CR f1 := ⟨PySem.W.mg_of X G aER, xcR, a1, t1, nER0⟩
  have tw : TWy K mg CR CT CG CM CN := ⟨PySem.W.mg_of X G aER, PySem.W.mg_of X G aET, PySem.W.mg_of X G aEG, PySem.W.mg_of X G aEM, PySem.W.mg_of X G aEN, xcR.x, xcT.x, xcG.x, xcM.x, xcN.x, nER0, nET0, nEG0, nEM0, nEN0, nEN1, exm_of eCR iCR tCR sRR, exm_of eCR iCR tCR sTR, exm_of eCT iCT tCT sTT, exm_of eCR iCR tCR sGR, exm_of eCT iCT tCT sGT, exm_of eCG iCG tCG sGG, exm_of eCR iCR tCR sMR, exm_of eCT iCT tCT sMT, exm_of eCG iCG tCG sMG, exm_of eCM iCM tCM sMM, exm_of eCR iCR tCR sNR, exm_of eCT iCT tCT sNT, exm_of eCG iCG tCG sNG, exm_of eCM iCM tCM sNM, exm_of eCN iCN tCN sNN⟩
  have yc : YCls K C0 := ⟨⟨pg0, hd0, po0, sa0⟩, n0_0, n0_1, n0_2⟩
  have ti : TI0 mg := ⟨(PySem.W.mg_none_of X G z0), (PySem.W.mg_none_of X G z1), (PySem.W.mg_none_of X G z2), (PySem.W.mg_none_of X G z3), (PySem.W.mg_none_of X G z4)⟩
  have tu : TUn K mg f3 f5 f7 f4 := ⟨ti, (PySem.W.mg_none_of X G z5), (PySem.W.mg_none_of X G z6), (PySem.W.mg_none_of X G z7), (PySem.W.mg_none_of X G z8), (PySem.W.mg_none_of X G z9), (PySem.W.mg_of X G a3), (PySem.W.mg_of X G a5), (PySem.W.mg_of X G a7), (PySem.W.mg_of X G a4)⟩
  have ty : TYd K mg C0 f3 f5 f7 f4 f8 f9 := ⟨tu, (PySem.W.mg_of X G a8), (PySem.W.mg_of X G a9), yc, PySem.W.mg_of X G aC0⟩
  have tp : TxP K mg f29 := ⟨(PySem.W.mg_none_of X G z1), (PySem.W.mg_none_of X G z4), (PySem.W.mg_none_of X G z5), (PySem.W.mg_of X G a29)⟩
  have tg : Y.TG K mg f29 := ⟨tp, (PySem.W.mg_none_of X G z10), (PySem.W.mg_none_of X G z3)⟩
  have oc : OCls K C1 := ⟨⟨pg1, hd1, po1, sa1⟩, n1_0, n1_1, n1_2⟩
  have okO : OwnK K C1 := ⟨yc1, ye3, ye4, ym1⟩
  have okY : OwnK K C0 := ⟨yc0, ye3, ye4, ym0⟩
  have ko : KOut K C0 C1 := ⟨oc, okO, kit_own, okY, kit_noT yt1, kit_noT yt0, kit_no (fun e => nC01 (by injection e)) yi1 yy1 yo1, kit_no (fun e => by cases e) yi1 yy1 yb0, kit_no (fun e => by cases e) yi1 yy1 yb1, kit_no (fun e => by cases e) yi1 yy1 yb2, kit_no (fun e => by cases e) yi1 yy1 yb3, kit_no (fun e => by cases e) yi1 yy1 yb4⟩
  have tr : TR K mg f7 := ⟨ti, (PySem.W.mg_none_of X G z9), (PySem.W.mg_none_of X G z8), (PySem.W.mg_none_of X G z10), (PySem.W.mg_none_of X G z5), (PySem.W.mg_of X G a7)⟩
  have tls : TLs K mg f29 f39 := ⟨tg, (PySem.W.mg_none_of X G z0), (PySem.W.mg_of X G a39)⟩
  have tyd : TY K mg f29 f30 f32 f33 := ⟨tg, (PySem.W.mg_none_of X G z8), (PySem.W.mg_of X G a30), (PySem.W.mg_of X G a32), (PySem.W.mg_of X G a33)⟩
  have tlw : TLw mg f29 f28 f41 f40 f43 f36 f37 f42 f17 f23 f25 f26 f27 f20 C1 := ⟨(PySem.W.mg_of X G a28), (PySem.W.mg_of X G a41), (PySem.W.mg_of X G a40), (PySem.W.mg_of X G a43), (PySem.W.mg_of X G a36), (PySem.W.mg_of X G a37), (PySem.W.mg_of X G a42), (PySem.W.mg_of X G a17), (PySem.W.mg_of X G a23), (PySem.W.mg_of X G a25), (PySem.W.mg_of X G a26), (PySem.W.mg_of X G a27), (PySem.W.mg_of X G a20), PySem.W.mg_of X G aC1⟩
  have gUn := ok_unlike (P := l.prog) (w := w) (base := base) F7 tu F3 b3 F5 b5 F4 b4
  have gUD := ok_unlikeD (P := l.prog) (w := w) (base := base) F7 tu F3 b3 F5 b5 F4 b4
  have gFI := ok_isFilled (P := l.prog) (w := w) (base := base) F11 tr gUn F7 b7
  have gFD := ok_isFilledD (P := l.prog) (w := w) (base := base) F11 tr gUD F7 b7
  have gRI := ok_rowI (P := l.prog) (w := w) (base := base) F1 xR
  have gCT := ok_cties (P := l.prog) (w := w) (base := base) F8 tu F5 b5 gUn F7 b7
  have gCR := ok_crings (P := l.prog) (w := w) (base := base) F9 tu F5 b5 gUn F7 b7
  have gYI := ok_yinit (P := l.prog) (w := w) (base := base) F0 ty F3 b3 gCT F8 b8 gCR F9 b9
  have gMA := ok_movesAt (P := l.prog) (w := w) (base := base) F12 tr (PySem.W.mg_of X G a11) gFI F11 b11
  have gFl := ok_filT (P := l.prog) (w := w) (base := base) F10 tr
  have gBe := ok_behind (P := l.prog) (w := w) (base := base) F13 ⟨ti, (PySem.W.mg_none_of X G z9)⟩
  have gSt := ok_steps (P := l.prog) (w := w) (base := base) F15 tr (PySem.W.mg_of X G a12) (PySem.W.mg_of X G a10) (PySem.W.mg_of X G a13) gMA F12 b12 gFl F10 b10 gBe F13 b13
  have gWa := ok_ways (P := l.prog) (w := w) (base := base) F16 (PySem.W.mg_none_of X G z3) (PySem.W.mg_none_of X G z5) (PySem.W.mg_of X G a15) gSt F15 b15
  have gCk := ok_chk (P := l.prog) (w := w) (base := base) F14 (PySem.W.mg_of X G a11) gFI F11 b11
  have gLo := ok_lot (P := l.prog) (w := w) (base := base) F17 (PySem.W.mg_none_of X G z3) (PySem.W.mg_none_of X G z8) (PySem.W.mg_of X G a14) (PySem.W.mg_of X G a16) gCk F14 b14 gWa F16 b16
  have gDe := ok_deep (P := l.prog) (w := w) (base := base) F21 (PySem.W.mg_none_of X G z7)
  have gPa := ok_parts (P := l.prog) (w := w) (base := base) F22 (PySem.W.mg_none_of X G z13) (PySem.W.mg_of X G a21) gDe F21 b21
  have gLt := ok_lost (P := l.prog) (w := w) (base := base) F23 (PySem.W.mg_none_of X G z11) (PySem.W.mg_of X G a17) gLo F17 b17 (PySem.W.mg_of X G a15) gSt F15 b15 (PySem.W.mg_of X G a22) gPa F22 b22
  have gCkX := ok_chkX (P := l.prog) (w := w) (base := base) F14 (PySem.W.mg_of X G a11) gFD F11 b11 xR gRI b1
  have gLoX := ok_lotX (P := l.prog) (w := w) (base := base) F17 (PySem.W.mg_of X G a14) gCkX F14 b14
  have gLtX := ok_lostX (P := l.prog) (w := w) (base := base) F23 (PySem.W.mg_of X G a17) gLoX F17 b17
  have gReX := ok_retX (P := l.prog) (w := w) (base := base) F24 (PySem.W.mg_of X G a23) gLtX F23 b23
  have gOoX := ok_outsOfX (P := l.prog) (w := w) (base := base) F25 (PySem.W.mg_of X G a24) gReX F24 b24
  have gHoX := ok_homeX (P := l.prog) (w := w) (base := base) F27 (PySem.W.mg_of X G a24) gReX F24 b24
  have gArX := ok_areX (P := l.prog) (w := w) (base := base) F26 (PySem.W.mg_of X G a23) gLtX F23 b23
  have gFz := ok_froz (P := l.prog) (w := w) (base := base) F6 ti
  have gOI := ok_oinit (P := l.prog) (w := w) (base := base) F2 (PySem.W.mg_of X G a6) gFz F6 b6
  have gFT := ok_ft (P := l.prog) (w := w) (base := base) F18 ti (PySem.W.mg_of X G a11) gFD F11 b11
  have gFTs := ok_fts (P := l.prog) (w := w) (base := base) F19 ti (PySem.W.mg_none_of X G z6) (PySem.W.mg_of X G a18) gFT F18 b18
  have gCl := ok_clo (P := l.prog) (w := w) (base := base) F20 (PySem.W.mg_none_of X G z6) (PySem.W.mg_none_of X G z5) (PySem.W.mg_none_of X G z7) (PySem.W.mg_of X G a19) gFTs F19 b19
  have gAr := ok_are (P := l.prog) (w := w) (base := base) F26 ti (PySem.W.mg_of X G aC1) oc okO kit_own (PySem.W.mg_of X G a23) gLt F23 b23 (PySem.W.mg_of X G a17) gLo F17 b17 (PySem.W.mg_of X G a18) gFT F18 b18
  have gPen := ok_pen (P := l.prog) (w := w) (base := base) F28 tp
  have gD := ok_draw (P := l.prog) (w := w) (base := base) F29 tp
  have gPk := ok_pick (P := l.prog) (w := w) (base := base) F30 tp F29 b29
  have gDY := ok_dyard (P := l.prog) (w := w) (base := base) F31 tyd F29 b29 F30 b30 F32 b32 F33 b33
  have gSY := ok_syard (P := l.prog) (w := w) (base := base) F41 tg (PySem.W.mg_of X G a31) F29 b29 gDY F31 b31
  have mkY : Mk K C0 f0 := ⟨mk0, a0, i0, kc0⟩
  have mkO : Mk K C1 f2 := ⟨mk1, a2, i2, kc1⟩
  have gMd := ok_made (P := l.prog) (w := w) (base := base) F40 ty tls (PySem.W.mg_of X G a38) mkY gYI b0 F38 b38 F39 b39 F29 b29
  have gDS := ok_stand (P := l.prog) (w := w) (base := base) F34 tg F29 b29
  have gLF := ok_lf (P := l.prog) (w := w) (base := base) F35 (PySem.W.mg_none_of X G z3) (PySem.W.mg_none_of X G z10) (PySem.W.mg_none_of X G z5)
  have gSR := ok_srow (P := l.prog) (w := w) (base := base) F42 (PySem.W.mg_none_of X G z11) (PySem.W.mg_of X G a30) gPk F30 b30 (PySem.W.mg_of X G a34) gDS F34 b34 (PySem.W.mg_of X G a35) gLF F35 b35
  have gOR := ok_oddR (P := l.prog) (w := w) (base := base) F43 tg (PySem.W.mg_of X G a30) F30 b30 F29 b29
  have gSa := ok_same (P := l.prog) (w := w) (base := base) F37 (PySem.W.mg_none_of X G z12)
  exact ok_law (P := l.prog) (w := w) (base := base) F44 rfl TBL (PySem.W.mg_none_of X G z10) tlw tw ko mkO gPen F28 b28 gSY F41 b41 gMd F40 b40 gOR F43 b43 F36 b36 gSa F37 b37 gSR F42 b42 gLoX F17 b17 gLtX F23 b23 gOoX F25 b25 gArX gAr F26 b26 gHoX F27 b27 gCl F20 b20 gOI b2
end Y
set_option Elab.async false
set_option linter.all false
open PySem PySem.W PyProof.Rows
set_option maxRecDepth 100000 in
set_option maxHeartbeats 0 in
theorem PySem.Challenge.cw_slideyards_k10_lots_refused_holds : PySem.Challenge.rw_slideyards_k10_lots_refused.Holds := by
  w_on; o_law; k_head; (case hw => w_witness2)
  k_fill
  refine Y.walk_G (l := PySem.Challenge.rw_slideyards_k10_lots_refused) (k := 14) (n := 63) (x := "_law_script") rfl (by decide) rfl ⟨rfl, by decide, by decide⟩ (fun w h Y => PySem.W.km_in_of Y) ?F
  case F =>
    intro w mg fa h hk KX G hmg
    refine' Y.all_mk KX G hmg ?aC0 ?pg0 ?hd0 ?po0 ?sa0 ?mk0 ?kc0 ?n0_0 ?n0_1 ?n0_2 ?yc0 ?ym0 ?yt0 ?aC1 ?pg1 ?hd1 ?po1 ?sa1 ?mk1 ?kc1 ?n1_0 ?n1_1 ?n1_2 ?yc1 ?ym1 ?yt1 ?ye3 ?ye4 ?yi1 ?yy1 ?yb0 ?yb1 ?yb2 ?yb3 ?yb4 ?yo1 ?nC01 ?aER ?gaR ?ggR ?eCR ?hCR ?nER0 ?tCR ?iCR ?xLR ?saR ?kCR ?aET ?gaT ?ggT ?eCT ?hCT ?nET0 ?tCT ?iCT ?xLT ?saT ?kCT ?aEG ?gaG ?ggG ?eCG ?hCG ?nEG0 ?tCG ?iCG ?xLG ?saG ?kCG ?aEM ?gaM ?ggM ?eCM ?hCM ?nEM0 ?tCM ?iCM ?xLM ?saM ?kCM ?aEN ?gaN ?ggN ?eCN ?hCN ?nEN0 ?nEN1 ?tCN ?iCN ?xLN ?saN ?kCN ?sRR ?sTR ?sTT ?sGR ?sGT ?sGG ?sMR ?sMT ?sMG ?sMM ?sNR ?sNT ?sNG ?sNM ?sNN ?a0 ?i0 ?l0 ?c0 ?k0 ?a1 ?t1 ?l1 ?c1 ?k1 ?a2 ?i2 ?l2 ?c2 ?k2 ?a3 ?l3 ?c3 ?k3 ?a4 ?l4 ?c4 ?k4 ?a5 ?l5 ?c5 ?k5 ?a6 ?l6 ?c6 ?k6 ?a7 ?l7 ?c7 ?k7 ?a8 ?l8 ?c8 ?k8 ?a9 ?l9 ?c9 ?k9 ?a10 ?l10 ?c10 ?k10 ?a11 ?l11 ?c11 ?k11 ?a12 ?l12 ?c12 ?k12 ?a13 ?l13 ?c13 ?k13 ?a14 ?l14 ?c14 ?k14 ?a15 ?l15 ?c15 ?k15 ?a16 ?l16 ?c16 ?k16 ?a17 ?l17 ?c17 ?k17 ?a18 ?l18 ?c18 ?k18 ?a19 ?l19 ?c19 ?k19 ?a20 ?l20 ?c20 ?k20 ?a21 ?l21 ?c21 ?k21 ?a22 ?l22 ?c22 ?k22 ?a23 ?l23 ?c23 ?k23 ?a24 ?l24 ?c24 ?k24 ?a25 ?l25 ?c25 ?k25 ?a26 ?l26 ?c26 ?k26 ?a27 ?l27 ?c27 ?k27 ?a28 ?l28 ?c28 ?k28 ?a29 ?l29 ?c29 ?k29 ?a30 ?l30 ?c30 ?k30 ?a31 ?l31 ?c31 ?k31 ?a32 ?l32 ?c32 ?k32 ?a33 ?l33 ?c33 ?k33 ?a34 ?l34 ?c34 ?k34 ?a35 ?l35 ?c35 ?k35 ?a36 ?l36 ?c36 ?k36 ?a37 ?l37 ?c37 ?k37 ?a38 ?l38 ?c38 ?k38 ?a39 ?l39 ?c39 ?k39 ?a40 ?l40 ?c40 ?k40 ?a41 ?l41 ?c41 ?k41 ?a42 ?l42 ?c42 ?k42 ?a43 ?l43 ?c43 ?k43 ?a44 ?l44 ?c44 ?k44 ?z0 ?z1 ?z2 ?z3 ?z4 ?z5 ?z6 ?z7 ?z8 ?z9 ?z10 ?z11 ?z12 ?z13 ?xTL ?pTL ?hTL ?nTL ?tTL
    (case aC0 => k_is); (case pg0 => k_is); (case hd0 => k_is); (case po0 => k_is); (case sa0 => k_is); (case mk0 => k_is)
    (case kc0 => k_is); (case n0_0 => k_is); (case n0_1 => k_is); (case n0_2 => k_is); (case yc0 => k_is); (case ym0 => k_is)
    (case yt0 => k_is); (case aC1 => k_is); (case pg1 => k_is); (case hd1 => k_is); (case po1 => k_is); (case sa1 => k_is)
    (case mk1 => k_is); (case kc1 => k_is); (case n1_0 => k_is); (case n1_1 => k_is); (case n1_2 => k_is); (case yc1 => k_is)
    (case ym1 => k_is); (case yt1 => k_is); (case ye3 => k_is); (case ye4 => k_is); (case yi1 => k_is); (case yy1 => k_is)
    (case yb0 => k_is); (case yb1 => k_is); (case yb2 => k_is); (case yb3 => k_is); (case yb4 => k_is); (case yo1 => k_is)
    (case nC01 => decide); (case aER => k_is); (case gaR => k_is); (case ggR => k_is); (case eCR => k_is); (case hCR => k_is)
    (case nER0 => k_is); (case tCR => k_is); (case iCR => k_is); (case xLR => k_is); (case saR => k_is); (case kCR => k_is)
    (case aET => k_is); (case gaT => k_is); (case ggT => k_is); (case eCT => k_is); (case hCT => k_is); (case nET0 => k_is)
    (case tCT => k_is); (case iCT => k_is); (case xLT => k_is); (case saT => k_is); (case kCT => k_is); (case aEG => k_is)
    (case gaG => k_is); (case ggG => k_is); (case eCG => k_is); (case hCG => k_is); (case nEG0 => k_is); (case tCG => k_is)
    (case iCG => k_is); (case xLG => k_is); (case saG => k_is); (case kCG => k_is); (case aEM => k_is); (case gaM => k_is)
    (case ggM => k_is); (case eCM => k_is); (case hCM => k_is); (case nEM0 => k_is); (case tCM => k_is); (case iCM => k_is)
    (case xLM => k_is); (case saM => k_is); (case kCM => k_is); (case aEN => k_is); (case gaN => k_is); (case ggN => k_is)
    (case eCN => k_is); (case hCN => k_is); (case nEN0 => k_is); (case nEN1 => k_is); (case tCN => k_is); (case iCN => k_is)
    (case xLN => k_is); (case saN => k_is); (case kCN => k_is); (case sRR => k_is); (case sTR => k_is); (case sTT => k_is)
    (case sGR => k_is); (case sGT => k_is); (case sGG => k_is); (case sMR => k_is); (case sMT => k_is); (case sMG => k_is)
    (case sMM => k_is); (case sNR => k_is); (case sNT => k_is); (case sNG => k_is); (case sNM => k_is); (case sNN => k_is)
    (case a0 => k_is); (case i0 => k_is); (case l0 => k_is); (case c0 => k_is); (case k0 => k_is); (case a1 => k_is)
    (case t1 => k_is); (case l1 => k_is); (case c1 => k_is); (case k1 => k_is); (case a2 => k_is); (case i2 => k_is)
    (case l2 => k_is); (case c2 => k_is); (case k2 => k_is); (case a3 => k_is); (case l3 => k_is); (case c3 => k_is)
    (case k3 => k_is); (case a4 => k_is); (case l4 => k_is); (case c4 => k_is); (case k4 => k_is); (case a5 => k_is)
    (case l5 => k_is); (case c5 => k_is); (case k5 => k_is); (case a6 => k_is); (case l6 => k_is); (case c6 => k_is)
    (case k6 => k_is); (case a7 => k_is); (case l7 => k_is); (case c7 => k_is); (case k7 => k_is); (case a8 => k_is)
    (case l8 => k_is); (case c8 => k_is); (case k8 => k_is); (case a9 => k_is); (case l9 => k_is); (case c9 => k_is)
    (case k9 => k_is); (case a10 => k_is); (case l10 => k_is); (case c10 => k_is); (case k10 => k_is); (case a11 => k_is)
    (case l11 => k_is); (case c11 => k_is); (case k11 => k_is); (case a12 => k_is); (case l12 => k_is); (case c12 => k_is)
    (case k12 => k_is); (case a13 => k_is); (case l13 => k_is); (case c13 => k_is); (case k13 => k_is); (case a14 => k_is)
    (case l14 => k_is); (case c14 => k_is); (case k14 => k_is); (case a15 => k_is); (case l15 => k_is); (case c15 => k_is)
    (case k15 => k_is); (case a16 => k_is); (case l16 => k_is); (case c16 => k_is); (case k16 => k_is); (case a17 => k_is)
    (case l17 => k_is); (case c17 => k_is); (case k17 => k_is); (case a18 => k_is); (case l18 => k_is); (case c18 => k_is)
    (case k18 => k_is); (case a19 => k_is); (case l19 => k_is); (case c19 => k_is); (case k19 => k_is); (case a20 => k_is)
    (case l20 => k_is); (case c20 => k_is); (case k20 => k_is); (case a21 => k_is); (case l21 => k_is); (case c21 => k_is)
    (case k21 => k_is); (case a22 => k_is); (case l22 => k_is); (case c22 => k_is); (case k22 => k_is); (case a23 => k_is)
    (case l23 => k_is); (case c23 => k_is); (case k23 => k_is); (case a24 => k_is); (case l24 => k_is); (case c24 => k_is)
    (case k24 => k_is); (case a25 => k_is); (case l25 => k_is); (case c25 => k_is); (case k25 => k_is); (case a26 => k_is)
    (case l26 => k_is); (case c26 => k_is); (case k26 => k_is); (case a27 => k_is); (case l27 => k_is); (case c27 => k_is)
    (case k27 => k_is); (case a28 => k_is); (case l28 => k_is); (case c28 => k_is); (case k28 => k_is); (case a29 => k_is)
    (case l29 => k_is); (case c29 => k_is); (case k29 => k_is); (case a30 => k_is); (case l30 => k_is); (case c30 => k_is)
    (case k30 => k_is); (case a31 => k_is); (case l31 => k_is); (case c31 => k_is); (case k31 => k_is); (case a32 => k_is)
    (case l32 => k_is); (case c32 => k_is); (case k32 => k_is); (case a33 => k_is); (case l33 => k_is); (case c33 => k_is)
    (case k33 => k_is); (case a34 => k_is); (case l34 => k_is); (case c34 => k_is); (case k34 => k_is); (case a35 => k_is)
    (case l35 => k_is); (case c35 => k_is); (case k35 => k_is); (case a36 => k_is); (case l36 => k_is); (case c36 => k_is)
    (case k36 => k_is); (case a37 => k_is); (case l37 => k_is); (case c37 => k_is); (case k37 => k_is); (case a38 => k_is)
    (case l38 => k_is); (case c38 => k_is); (case k38 => k_is); (case a39 => k_is); (case l39 => k_is); (case c39 => k_is)
    (case k39 => k_is); (case a40 => k_is); (case l40 => k_is); (case c40 => k_is); (case k40 => k_is); (case a41 => k_is)
    (case l41 => k_is); (case c41 => k_is); (case k41 => k_is); (case a42 => k_is); (case l42 => k_is); (case c42 => k_is)
    (case k42 => k_is); (case a43 => k_is); (case l43 => k_is); (case c43 => k_is); (case k43 => k_is); (case a44 => k_is)
    (case l44 => k_is); (case c44 => k_is); (case k44 => k_is); (case z0 => k_is); (case z1 => k_is); (case z2 => k_is)
    (case z3 => k_is); (case z4 => k_is); (case z5 => k_is); (case z6 => k_is); (case z7 => k_is); (case z8 => k_is)
    (case z9 => k_is); (case z10 => k_is); (case z11 => k_is); (case z12 => k_is); (case z13 => k_is); (case xTL => k_is)
    (case pTL => rfl); (case hTL => rfl); (case nTL => rfl); (case tTL => exact PySem.W.km_tabs_of hk _ (by decide))
